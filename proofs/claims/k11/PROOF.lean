import PyProof.Rows.All
import Wide.All
import OpenK.AllK
import Wide.FinOn
import Lean
import PyProof.EqAt
import PyProof.EqKinds
import PyProof.TupleCall
import PySem.Challenge.RW_trussel_k11_what_asking_refuses
set_option Elab.async false
set_option linter.all false
set_option maxRecDepth 100000
set_option maxHeartbeats 4000000
set_option genInjectivity false
set_option bootstrap.genMatcherCode false
set_option genSizeOf false
local macro_rules|`(def $i:declId $s:optDeclSig $v:declVal)=>`(noncomputable def $i:declId $s:optDeclSig $v:declVal)
def An:=@PySem.wpAny_binaryOp_repeat_ref
def Ao:=@PySem.W.hideAll_get
def Ap:=@PySem.W.callWith_K0
def Aq:=@List.length_pos_iff
def Ar:=@Int.toNat_of_nonneg
def GA:=@PySem.W.of_hideAll
def GB:=@PySem.W.kitx_tuple
def GC:=@Nat.mod_lt
def GD:=@List.mem_singleton
def GF:=@List.find?_eq_none
def GG:=@Int.natAbs_natCast
def GH:=@Array.append_assoc
def WO:=@PySem.putSet_of
def WQ:=@PySem.list_append
def WR:=@PySem.W.kitx_list
def WS:=@PySem.W.kitx_dict
def WT:=@List.length_range
def WU:=@List.foldl_append
def WV:=@List.ext_getElem?
def WW:=@List.all_eq_false
def WX:=@Array.toList_push
def X':=@PySem.IsL.update
def XX:=@PySem.seqIndex_neg
def XY:=@PySem.concat_meets
def XZ:=@PySem.seqSlot_of
def Ya:=@List.perm_middle
def Yb:=@List.getElem_inj
def Yc:=@List.ext_getElem
def Yd:=@PySem.Calls.callWith_builtin
def aA:=@List.getElem?_append_left
def aB:=@List.getElem?_set_ne
def aC:=@decide_eq_false
def aD:=@List.getElem?_map
def aE:=@if_neg
def aF:=@Option.some.inj
def aG:=@if_pos
def aI:=@PySem.mem_of_lookup
def aK:=@Nat.ne_of_lt
def aM:=@decide_eq_true
def aO:=@Nat.le_trans
def aP:=@List.getElem?_set_self
def aS:=@PySem.Heap.get?_update_self
def aT:=@List.mem_map
def aU:=@List.map_cons
def aW:=@Bool.and_eq_true
def aY:=@of_decide_eq_true
def aZ:=@List.mem_of_getElem?
def aa:=@PySem.wpAny_bind
def ae:=@Option.map_eq_some_iff
def ag:=@Option.bind_eq_some_iff
def ah:=@PySem.wpAny_pure
def ai:=@PySem.Heap.get?_push_of_some
def aj:=@List.length_map
def ak:=@Nat.le_refl
def ao:=@Nat.lt_of_lt_of_le
def aq:=@List.getElem?_eq_getElem
def au:=@PySem.Heap.lt_size
def av:=@List.getElem?_eq_some_iff
def ax:=@PySem.Heap.get?_push_size
def ay:=@List.size_toArray
def az:=@List.mem_cons
def bB:=@List.mem_cons_of_mem
def bE:=@PySem.W.mg_of
def bG:=@PySem.W.kia_one
def bH:=@Nat.ne_of_gt
def bK:=@List.replicate_succ
def bL:=@PySem.Heap.get?_update_other
def bN:=@PySem.Heap.SameBut.update
def bO:=@PySem.wpAny_newObj_type
def bP:=@decide_eq_true_iff
def bR:=@Ne.symm
def bT:=@PySem.wpAny_holding
def bU:=@PySem.wpAny_truthy_bool
def bV:=@PySem.wpAny_setState_of
def bW:=@List.lookup_cons
def bX:=@List.length_take
def ba:=@Nat.lt_irrefl
def bc:=@List.length_append
def bf:=@List.mem_append_right
def bg:=@PySem.wpAny_mono
def bh:=@PySem.Obj.data_mapFields
def bj:=@Array.length_toList
def bp:=@Bool.eq_iff_iff
def bt:=@List.mem_append
def bu:=@PyProof.Rows.callWith_type1
def bz:=@PyProof.Rows.slot_tuple_getitem
def cC:=@PySem.Obj.isFreed_of_fields
def cI:=@beq_eq_false_iff_ne
def cK:=@List.length_cons
def cL:=@List.getElem_mem
def cM:=@List.getElem?_replicate
def cQ:=@Nat.zero_le
def cS:=@PySem.W.cellsFrom_some
def cT:=@List.pairwise_cons
def cU:=@Int.emod_lt_of_pos
def cV:=@Bool.false_ne_true
def cY:=@PySem.wpAny_setField
def cZ:=@List.getElem?_eq_none
def cb:=@PySem.wpAny_call_entry
def cc:=@PySem.wpAny_Call_Name_kw
def cg:=@List.mem_filter
def cu:=@Nat.lt_trans
def cv:=@List.mem_range
def cw:=@List.getElem?_eq_none_iff
def cx:=@List.map_append
def cy:=@List.flatten_cons
def cz:=@Int.toNat_natCast
def dB:=@PySem.wpAny_of_eq
def dC:=@Option.isSome_iff_exists
def dD:=@PySem.Heap.size_push
def dE:=@PySem.Around.under_plainId
def dF:=@Int.emod_nonneg
def dG:=@Bool.or_eq_true
def dI:=@PySem.wpAny_typeOf
def dJ:=@List.filter_append
def dQ:=@decide_eq_false_iff_not
def dW:=@PyProof.Rows.boot_list
def dX:=@List.map_map
def dZ:=@PySem.codeAny_builtin
def da:=@Array.getElem_eq_getD
def dc:=@List.nodup_append
def dh:=@PySem.wpAny_passesOwn
def dj:=@List.mem_iff_getElem
def dk:=@List.mem_append_left
def dn:=@List.getElem?_append_right
def dq:=@PySem.wpAny_standAt
def dt:=@Nat.le_of_lt
def du:=@Array.getElem?_eq_getElem
def dw:=@PyProof.Rows.F.plain_set_update_loop
def dy:=@List.filterMap_cons
def eB:=@Nat.lt_succ_self
def eE:=@List.any_eq_true
def eF:=@List.all_eq_true
def eJ:=@List.eq_nil_of_length_eq_zero
def eR:=@List.nodup_cons
def eX:=@PySem.builtinLookup_eq_fast
def eh:=@PySem.tupleKind_room_in1
def ei:=@PySem.call_meets
def et:=@PySem.wpAny_callSpecial?_slot
def fC:=@Nat.le_succ
def fE:=@List.reverse_cons
def fF:=@List.append_assoc
def fI:=@PySem.codeAny_mono
def fJ:=@PySem.F.args_tuple_add_2
def fK:=@List.any_cons
def fS:=@PySem.isSubtype_type
def fT:=@congrArg
def fU:=@PySem.F.entry_tuple_add
def fV:=@List.take_length
def fW:=@List.length_drop
def fb:=@PySem.wpAny_rule
def fc:=@PySem.intKind_is
def fg:=@beq_iff_eq
def fh:=@List.mem_cons_self
def fj:=@List.length_eraseIdx_of_lt
def fo:=@List.drop_eq_getElem_cons
def gD:=@PySem.wpAny_pyIter_list
def gE:=@List.find?_cons
def gF:=@List.append_nil
def gJ:=@PySem.wpAny_comprehension_free
def gK:=@PySem.F.slot_dict_get
def gL:=@Nat.eq_of_beq_eq_true
def gM:=@List.length_singleton
def gN:=@List.length_replicate
def gO:=@Array.getElem?_toList
def gZ:=@Array.getElem?_setIfInBounds_self_of_lt
def gs:=@PySem.F.slot_tuple_add
def gw:=@List.drop_eq_nil_of_le
def hU:=@PySem.wpAny_isInstance
def hV:=@PySem.noFill_tuple_add
def hW:=@List.take_succ
def hX:=@List.mem_of_mem_take
def hZ:=@List.mem_of_mem_drop
def iR:=@PySem.wpAny_execs_nil
def iS:=@PySem.typeLookup_type
def iT:=@PySem.F.slot_int_rmul
def iZ:=@PySem.W.callWith_K
def ia:=@List.Pairwise.filter
def iy:=@PyProof.Rows.F.entry_set_update_loop
def iz:=@List.getElem?_range
def jA:=@List.map_nil
def jN:=@List.eraseIdx_eq_take_drop_succ
def jO:=@Array.getElem?_setIfInBounds_ne
def ja:=@Nat.not_lt
def jb:=@Nat.lt_of_le_of_lt
def jc:=@List.mem_filterMap
def jt:=@List.findIdx?_eq_some_iff_getElem
def jw:=@PySem.wpAny_field
def jx:=@PySem.sizeLine_eq
def jy:=@Option.isSome_map
def jz:=@Nat.lt_trichotomy
def kA:=@PySem.plainId_quiet
def kB:=@PySem.Paired.length
def kP:=@PySem.typeIs_int
def kQ:=@List.range_succ
def kR:=@List.of_mem_zip
def kS:=@List.foldl_cons
def kT:=@PySem.F.args_tuple_add_2
def kc:=@Nat.mod_eq_of_lt
def kd:=@Nat.le_of_not_lt
def kz:=@PySem.seq_tuple_add
def mM:=@List.mem_or_eq_of_mem_set
def mh:=@PySem.Value.isInt_shape
def mj:=@Option.ne_none_iff_exists'
def ml:=@PySem.Obj.cls_mapFields
def mm:=@List.mapM_cons
def mn:=@PySem.F.entry_tuple_add
def mq:=@Bool.false_and
def nK:=@PySem.wpAny_askSetting
def nL:=@PyProof.Rows.boot_sorted
def nM:=@PySem.F.slot_tuple_mul
def nN:=@PySem.F.slot_tuple_add
def oX:=@PySem.F.plainAttrs_list
def oY:=@PySem.F.args_dict_get_3
def oZ:=@PyProof.Rows.boot_tuple
def pZ:=@PySem.codeAny_of_tree
def qa:=@PySem.F.entry_dict_get
def qb:=@Nat.mul_comm
def qc:=@List.take_of_length_le
def qd:=@List.set_set
def qe:=@List.pairwise_lt_range
def qf:=@List.length_pos_of_mem
def qg:=@List.any_map
def qh:=@Bool.not_not
def qi:=@Array.getElem?_eq_none
def tB:=@PyProof.Rows.assignInOrder_cons
def tD:=@PyProof.Rows.boot_set
def tE:=@PyProof.Rows.boot_int
def tF:=@List.take_append_drop
def tG:=@List.length_filter_le
def tw:=@PyProof.Rows.size_push'
def vq:=@PySem.Calls.Name_function_global
structure PySem.W.Fast:Prop where(tw8379650799571372939 tw188578148858833740 tw1274144170554521520 tw17077947839915739672 tw7590367283732742890 tw7933254580677278851 tw10104588620857077436 tw12663832863470014448 tw968461261344366503 tw7780048103939738042 tw13951363519472924690 tw11593796056191464863 tw12907793930929993876 tw5692319851187633081 tw4084163827074471518 tw6118294761688075492 tw14323957627377835237 tw11339814995850568968 tw12591818054405178222 tw8494033425755501367 tw14256417197687157124 tw10128164702969500743 tw6200533213165063007 tw3272531269201919690 tw15106465778952885668 tw15241032031256585144 tw5464284058863144902 tw11321036478163753889 tw13480272981906197487 tw731673318699418406 tw11306881398994035667 tw14736099554188604934 tw9096708784010520376 tw5478137760855857739 tw8917893708895617032 tw3603836615502680214 tw7367230831903599702 tw68519945414121245 tw7883230463996125102 tw16068282307860646646 tw11004588930401960844 tw2240957468325354019 tw23533534376138535 tw12669811626480350350 tw12920972384015316006 tw6144444446635487283 tw513786912262990949 tw17664683298508014554 tw3548079616664831312 tw3110259879601398426 tw13095937007321025681 tw1074466182026207380 tw15029563899226943370 tw10113292955470902800 tw8668965265020887917 tw10421776434888068160 tw4245773221856934909 tw2452750474154554054 tw2090186251042407597 tw5587892085268209059 tw17810017082573505616 tw14246566823794556149 tw10203437008758055625 tw13087943982099749708 tw14218667792669020442 tw7596924836046397358 tw13479049952038182429 tw7587740424627681294 tw17674344127492610499 tw606080127598581943 tw9184478334706045782 tw16943348198319993280 tw6035234769382194458 tw11658143076761539261 tw2049890200576488308 tw13023403342409627898 tw171957105441854520 tw2586040632647638928 tw17309358572768531343 tw15460167404287748722 tw12148571239104389005 tw17497483718967039463 tw18207768663360380212 tw15206548265824542545 tw14024621175622698304 tw18186901634435668003 tw1591926742070224246 tw17995159603660197384 tw2552962065913182950 tw14503885127846059958 tw10155646994735938784 tw8071103972801911597 tw747744459635761967 tw14305730250590706416 tw16719889649528070744 tw10238848897779245598 tw9938340196049890382 tw17533916201987610228 tw16255206700579322653 tw8104430403374639271 tw11886004842452338177 tw14604637857665506003 tw1696952471020091576 tw2199258549559221279 tw1694083263276788684 tw8879819226295635700 tw14035582054005145459 tw848961444291206861 tw9403098215171279728 tw13821053034074177816 tw10593942607493869535 tw2961726255875774356 tw9814583772853795077 tw13257989717602533217 tw5866047109805139345 tw16842783876530045460 tw2117464598785972029 tw1525015093218053269 tw5646845263683706796 tw6532064980217584908 tw2611515810254110787 tw11698099723909673265 tw8458381519834784059 tw16111756622899233569 tw1877175456010935030 tw8542598768233388241 tw15785157213325578587 tw2081854766586798176 tw14893009149324563489 tw1935462326839153606 tw8995902324865423180 tw885951172849773088 tw7850398861618253029 tw12640471654036736500 tw12048160781595306653 tw9812153758528612984 tw13043494399866522425 tw8368624242321342839 tw13078149193985021535 tw15516962192397368413 tw9090190304254763992 tw10550485477149315308 tw5597111627103688526 tw11763929241213511459 tw6756014253234594738 tw2357757768995435783 tw9396223911236786457 tw4012220815175501120 tw16461420143346610472 tw15196267366260083028 tw6315779486003742412 tw13998743730212394685 tw1063156518935919623 tw16592761626641919071 tw10364162200997958350 tw797440121870039253 tw15916543664561838005 tw5363600029483683130 tw4078068159732459067 tw425853848558674620 tw3623873093414216240 tw14242058164787843503 tw13345721708468323018 tw3981262620527627649 tw18412133944124964756 tw15604226007445321281 tw10424121576066668616 tw5480574992090954856 tw9086279364643913165 tw3032508147649534735 tw7555449119111704605 tw10324325569840765109 tw3021288032652548915 tw13927827506077636447 tw9419801450556352749 tw15009244132247388964 tw1048361338858838441 tw17974947522806712820 tw1754672027574818609 tw13170753398979476898 tw18202771815277004063 tw14285668273054286805 tw10485382053267719079 tw2762293473906627017 tw9273835598969301608 tw13486708271097632426 tw33881550737604461 tw3713902114460917933 tw6075048800713622973 tw3006434894535468842 tw8491192011379257080 tw9171197496159834350 tw18207672511611992971 tw4051378741094655314 tw13310992511212128470 tw14340907405421443505 tw8508015047905577856 tw16009862951795442207 tw8399603307856665272 tw6812067859131467243 tw3801111437527850105 tw7208158799562683855 tw1270361699594499390 tw5649344455379793555 tw1973163198174408568 tw1446213420304308909 tw18395148781616721657 tw6297669174061273526 tw10959198197775676711 tw7269980189587980308 tw2296488387782128199 tw18362321616087599586 tw14265810741294878101 tw18004399014702620586 tw14848047782679583480 tw10105190262581294442 tw16515675339366820911 tw18223241024547940814 tw10785775375025502387 tw9763744080665743173 tw1714387345768828118 tw10107123231661546009 tw16654807335187795905 tw6741271049434614050 tw1554522231978572431 tw9619828203988263816 tw13282829264621535236 tw11186505930866103629 tw16985098633502445750 tw463351029615326950 tw6655704396988796749 tw1814129012068225657 tw4425323934948370938 tw6275224672785061326 tw7117728502241580003 tw8000859420625260938 tw12279628723265024072 tw8046654552918989533 tw9704495271259555306 tw11799701201643527340 tw8088777947798075315 tw11002886996124214849 tw15265704085241589581 tw16881845569645368043 tw1226568410341097428 tw15142905088656739189 tw15023266325987373726 tw11987206771540634460 tw7939599272908611931 tw6353506546411615716 tw8253133798937265808 tw2063592455595832962 tw3470966721545774548 tw3443084919140473925 tw11447281680006127709 tw5249216030861984204 tw13423302992257823035 tw14625409118400801301 tw6406736816907646617 tw12348054357614756649 tw17626552619155273297 tw4583255022197577857 tw9890805102100719914 tw2279029698273502671 tw12925213974935130897 tw2048368113003850852 tw8256553566144407834 tw8888500539663895574 tw3639789437808582068 tw711173158635297430 tw1513274633774446661 tw6010778807874112510 tw1134941413034951356 tw789347078098350431 tw5731249885709990914 tw12997429228794759063 tw5518718119426327341 tw7846373626679855723 tw16293196715539986465 tw9296413725084517045 tw10523603545462180393 tw5520749749092030744 tw14921604644301435090 tw9491208213150486129 tw2220088078804279937 tw1428526947211818830 tw186541409649635029 tw17192975661567474260 tw7824528538588330113 tw3382272510596031729 tw5497646594477691452 tw2152537855562915599 tw4286208774671842508 tw17753871970683515866 tw2437551351712468428 tw11012047333455231275 tw6423075643372245484 tw9195520298210564284 tw9991200672437466162 tw11812839463375996046 tw5699496995335730409 tw15222019160160485863 tw12279784152602624243 tw4602256098926050245 tw644188189594431188 tw1228336587973940806 tw6065700774112336869 tw14554382854333513896 tw4095732177761599166 tw6332409994234134374 tw68642472403546467 tw4205404004651300881 tw13204989760507207719 tw1691405880618307432 tw16542486974771286297 tw2447080371071473027 tw14459325061050556230 tw17997540681766696347 tw14675462806248075019 tw2127178648412044786 tw10372488153545017730 tw2156570013118108782 tw17395944815892364081 tw7951694158433508211 tw10878495958397871666 tw2700835475178053039 tw11249866685018176266 tw2900991792122462102 tw1718330295951928248 tw10499203437268397472 tw4013866840976715659 tw6697727732537698329 tw2374832921846835115 tw2033199900213416111 tw17877258959152873634 tw11438827353349516501 tw5315170300246744553 tw10057447238663068322 tw10636328998522158444 tw1294395815135618827 tw717276909715650982 tw4207942918643368947 tw4592025525397830902 tw2302424851945402493 tw12962862492548040894 tw11013906590882351915 tw3115180237342615948 tw3599067964635728642 tw2264015617796863024 tw7076325592405332423 tw10626295521651786328 tw7390779029810491127 tw15146558666580922145 tw11486449508941272272 tw6999940908704119618 tw3732892838803498572 tw11941787565062395199 tw3792350884047049528 tw12841988317868354951 tw17577960697761791097 tw1603076085374471750 tw11481602803861049526 tw18165081612934506090 tw7533294300798708953 tw15774380264298679857 tw222091453396302310 tw16283868737675957054 tw15436087244827638143 tw11381177186456807082 tw16102215970961957432 tw8945237662294899721 tw17810231611669563942 tw7801630930502722310 tw14772762560620587985 tw6149697431217732611 tw16140432160262712355 tw11862281544344879728 tw17563343004290190735 tw5755424784971935682 tw14937411496767471099 tw9301911534570728128 tw4350271839046419774 tw11041644720384030419 tw4130109901757109376 tw15399558512346650680 tw2477050160947571539 tw14939166459421447056 tw10270546767743937195 tw15441612558290732184 tw564543280579487915 tw14155066373279658651 tw17278602329407377299 tw9754421238756561961 tw6274549560546097122 tw8835333529924292399 tw8152508818551102460 tw17944658124412619669 tw13136386350194689382 tw8005421821571794515 tw12566379804097803528 tw13080655024080643771 tw13192788976533214727 tw9901706716240328030 tw7406111553385241346 tw1657774168953084831 tw8988480652696921233 tw4939461299381811753 tw13027767900425467737 tw7679721293884813375 tw16253849814305889594 tw13518465140382058232 tw16489241042867839424 tw18438635580740500216 tw17174006575780392840 tw17718215643418979619 tw13900201863605284924 tw1179897543853410778 tw6868596995838122189 tw1579361718914169362 tw7471346107784950414 tw14710666359616835547 tw15607820445472230273 tw10227070887764708351 tw576465611207910034 tw2234986144764142154 tw13681415846808675111 tw8941345440784320119 tw8830486046399614351 tw8588094199912712714 tw12276579363958838540 tw13392531968883601675 tw3328185577997487470 tw17563438563918503148 tw12596135547547868203 tw7131963387973947887 tw5179341941467310080 tw7013534581459369089 tw11210367264516699261 tw17143630020744875254 tw11986029692821324657 tw12963184134084690253 tw9426560309073989378 tw3551378506472719993 tw2108660301009829008 tw3069411562944336027 tw7518913007267388750 tw3334857537230930915 tw6137967750935422111 tw12032902950159186484 tw17772498694203428006 tw6675580640851276245 tw1197613667584160828 tw11410979698311590515 tw5492136485407127403 tw11050320988209781265 tw13461183196750242280 tw16050145311762537511 tw14965391026194335986 tw17573602515586300247 tw1916942934378681673 tw2735167842492013771 tw15988354545272080019 tw3427081418086744274 tw9819739559241429659 tw9410464413636229445 tw1859311751480360391 tw4219414268096161737 tw18331057932581926568 tw2535362076652707933 tw9603216937190908832 tw15288458952921560827 tw6439575076074089819 tw17364987836820941592 tw12291002653072567036 tw9056657532491233995 tw9212379059136418929 tw17124830959555615169 tw13431083865744401271 tw14375813591673685832 tw14674260026930063837 tw1482988344000748929 tw17315864767639053103 tw8548808257282871947 tw16200430154853177304 tw10633928541017866918 tw11148410186301759844 tw6436998822769225017 tw1329994403708429788 tw6598462265430164297 tw12461320301078410721 tw4876919117466342349 tw7739311943955565516 tw2558331190874495719 tw2093760825878647875 tw8748231247207750056 tw16953459022259099239 tw13913031070203362965 tw15722905466590188801 tw14718637864874787186 tw8392522294904806326 tw14097267301800659511 tw12848617406432241691 tw18103822505849945000 tw3146705719494700875 tw15916716936125055256 tw10982639747581408958 tw2711370658446538604 tw16020163481490429008 tw5579607168864681517 tw16496680005862673859 tw15569586781495476169 tw17357375733629849453 tw12201266776211453808 tw5286550934873737019 tw10977679609659439233 tw9645114598342297400 tw3856012375164638906 tw74303175679127720 tw10238179628987949119 tw5709837114336336058 tw6794330074803177282 tw3838166497720126518 tw506039487579208288 tw1835508979289813670 tw13633613135738202885 tw411882007352731962 tw11051480227677881583 tw7968023939385606565 tw11834508203357837006 tw11933101358272801600 tw17191616094112502910 tw1628630815100833388 tw1317393895341354372 tw13402943899908244511 tw18011470949111058833 tw8480131644950394633 tw5361292030374480215 tw4127220095279639012 tw17566434412266874578 tw8086171416396199524 tw3656904366881503373 tw261242810334001591 tw14276533301389961936 tw963821384184166154 tw10044836557098308408 tw5084446865311195545 tw7281016519554545506 tw10888632838349727334 tw4373870915360806360 tw776552695522752440 tw10141715968563758573 tw10001672343581126682 tw8970715413821274230 tw4224832509861318884 tw18403774622166734724 tw13687120162149491690 tw13394878236241282744 tw9822716213968529533 tw2636486657450057650 tw7167040533264920450 tw8313516867029975680 tw12115136526673292462 tw6695003009394847787 tw17973631723614689477 tw10970000270401649534 tw5337881242302167681 tw11222700631000069437 tw12295223582803437862 tw5099596935137517758 tw12087475450933863220 tw11145307746930131485 tw11548830103606900949 tw9266986223930126907 tw17812053058084268695 tw2033508348053974099 tw629795457914754492 tw7338254289626394597 tw15470923394256165398 tw1181512054130674790 tw7797453962634211554 tw15098047932018610106 tw9760646101663573405 tw16490527561107634314 tw6445217267151390567 tw5412330835901713554 tw7213341355250447341 tw18253280702753380592 tw7599976506609997030 tw4911768032605923326 tw15684285719563356678 tw17258977231325807795 tw9994857230682705555 tw7286393608062839158 tw11827412844748330465 tw4776943144186638149 tw16770548990893900904 tw5988533669959311257 tw8942695888182813703 tw7451471027095129152 tw9248975761865176980 tw12057240968443179528 tw8113122306052746151 tw6145672473231507678 tw18124362254997114460 tw15919056545660346724 tw12868806884590153589 tw13258390618440970772 tw15034299582322663031 tw5695584799475380527 tw15289277538381696091 tw1499231661653058358 tw3146112369517689984 tw9898388634126356399 tw12911126423407001961 tw3345067458198917661 tw9921498066540151526 tw3337744671349476313 tw10318737712498894686 tw3966764736896826544 tw16781170180753118559 tw7645069389654338496 tw12951605517099330886 tw10638835635457074470 tw2568124494908532663 tw7765696489126667168 tw16066607246614832186 tw6314314384677423950 tw11174206976115279511 tw13168578488567642480 tw5063581842641923808 tw5750087608943436200 tw16222076157428907055 tw5433075267670372041 tw7435599006686189122 tw7426307858167336882 tw17068311340288666321 tw14266138745655061967 tw14565239124870852094 tw4326241377726640967 tw5333124709757644740 tw9568996060590729654 tw8964890123237037494 tw6844957778405698707 tw10724413355399136652 tw5555720304989113256 tw4041721132086030990 tw1391264002382349613 tw3419475457886605325 tw13157203736511879192 tw4997151256060060506 tw3938095542584715824 tw931763625345136495 tw4778394916143142806 tw12831300540267908798 tw12447861710474419903 tw3110045965721651247 tw16201997470353737686 tw2472307134643549258 tw9239788554950201162 tw10929277118676049054 tw1865500722278164312 tw14672074999660212601 tw7801207667686106107 tw16632132865350133715 tw368340261510794493 tw6491984307048706491 tw11300681155799530674 tw5698192596993725314 tw2739778424994299067 tw7090967605364766127 tw15298345432033991956 tw3342729216849553713 tw17219392736889839530 tw7832674204407755927 tw4509830685276337697 tw5443925948229484376 tw5711916246250324415 tw13021181418053901607 tw9845202842929524422 tw2055560957782575227 tw931035018310519680 tw7982797473983909277 tw13840978751717412360:True)
namespace L2
open PySem PySem.Spec PyProof.Rows
noncomputable abbrev Key:=Sum Int Str
def pW:Key->Value->Bool
 |.inl k,v=>Value.isInt k v
 |.inr x,v=>Value.isStrOf x v
def PL(w:World):Key->Int
 |.inl k=>hashInt k
 |.inr x=>hashStr w x
theorem o6:∀{k:Key} {v:Value},pW k v=true->(∃i t,k=Sum.inl i/\v=Value.int i t)\/(∃x t,k=Sum.inr x/\v=Value.str x t)
 |.inl i,v,h=>by
  obtain⟨t,e⟩:=mh (k:=i) (v:=v) h;exact .inl ⟨i,t,rfl,e⟩
 |.inr x,v,h=>by
  obtain⟨t,e⟩:=Value.isStrOf_shape (x:=x) (v:=v) h;exact .inr ⟨x,t,rfl,e⟩
theorem TQ(i:Int)(t:Tok):pW (.inl i) (.int i t)=true:=by simp[pW,Value.isInt]
theorem TR(x:Str)(t:Tok):pW (.inr x) (.str x t)=true:=by simp[pW,Value.isStrOf]
theorem Mp(a b:Int):decide ((Sum.inl a:Key)=Sum.inl b)=(a==b):=by
 by_cases e:a=b
 ·subst e;simp
 ·have h:¬(Sum.inl a:Key)=Sum.inl b:=λq=>e (Sum.inl.inj q);rw[aC h];exact(cI.mpr e).symm
theorem Mt(a b:Str):decide ((Sum.inr a:Key)=Sum.inr b)=decide (a=b):=by
 by_cases e:a=b
 ·subst e;simp
 ·have h:¬(Sum.inr a:Key)=Sum.inr b:=λq=>e (Sum.inr.inj q);rw[aC h,aC e]
theorem Mq(a:Int)(b:Str):decide ((Sum.inl a:Key)=Sum.inr b)=false:=aC (λq=>nomatch q)
theorem Mr(a:Str)(b:Int):decide ((Sum.inr a:Key)=Sum.inl b)=false:=aC (λq=>nomatch q)
def l6(prog:Program)(w:World):PySem.KeyKind prog w Key where
 is:=pW
 hash:=PL w
 inj:=λv a b ha hb=>by
  rcases o6 ha with⟨i,t,rfl,rfl⟩|⟨x,t,rfl,rfl⟩
  ·rcases o6 hb with⟨j,u,rfl,e⟩|⟨y,u,rfl,e⟩
   ·injection e with e1 _;rw[e1]
   ·exact nomatch e
  ·rcases o6 hb with⟨j,u,rfl,e⟩|⟨y,u,rfl,e⟩
   ·exact nomatch e
   ·injection e with e1 _;rw[e1]
 byValue:=λk v h=>by
  rcases o6 h with⟨i,t,rfl,rfl⟩|⟨x,t,rfl,rfl⟩<;>rfl
 pyHash:=λhv h=>by
  rcases o6 hv with⟨i,t,rfl,rfl⟩|⟨x,t,rfl,rfl⟩
  ·exact wpAny_pyHash_int h
  ·exact wpAny_pyHash_str h
 eqBool:=λhu hv h=>by
  rcases o6 hu with⟨i,t,rfl,rfl⟩|⟨x,t,rfl,rfl⟩
  ·rcases o6 hv with⟨j,u,rfl,rfl⟩|⟨y,u,rfl,rfl⟩
   ·rw[Mp] at h;exact wpAny_eqBool_int h
   ·rw[Mq] at h;exact SeqAt.EqAt.int_str i t y u _ _ _ _ h
  ·rcases o6 hv with⟨j,u,rfl,rfl⟩|⟨y,u,rfl,rfl⟩
   ·rw[Mr] at h;exact SeqAt.EqAt.str_int x t j u _ _ _ _ h
   ·rw[Mt] at h;exact wpAny_eqBool_str h
 «strs»:=λk x t v h=>by
  rcases o6 h with⟨i,u,rfl,e⟩|⟨y,u,rfl,e⟩
  ·exact nomatch e
  ·injection e with e1 _;subst e1;cases v<;>rfl
theorem QP(prog:Program)(w:World)(i:Int)(t:Tok):(l6 prog w).is (.inl i) (.int i t)=true:=TQ i t
theorem QQ(prog:Program)(w:World)(x:Str)(t:Tok):(l6 prog w).is (.inr x) (.str x t)=true:=TR x t
set_option genInjectivity true in
inductive V where
 |bw|bl (b:Bool)|int (i:Int)|str (x:Str)|jW (b:Array UInt8)|oJ (b:UInt64)|ref (a:Addr)|ty (n:String)
 deriving DecidableEq
def RelV:V->Value->Prop
 |.bw,u=>u=Value.none
 |.bl b,u=>u=Value.bool b
 |.int i,u=>∃t,u=Value.int i t
 |.str x,u=>∃t,u=Value.str x t
 |.jW b,u=>∃t,u=Value.bytes b t
 |.oJ b,u=>∃t,u=Value.float b t
 |.ref a,u=>u=Value.ref a
 |.ty n,u=>u=Value.type n
noncomputable abbrev Vals:List V->List Value->Prop:=Paired RelV
theorem Vals.length{xs:List V}{us:List Value}(r:Vals xs us):xs.length=us.length:=kB r
theorem Vals.get:∀{xs:List V} {us:List Value} {i:Nat} {x:V},Vals xs us->xs[i]?=some x->∃u,us[i]?=some u/\RelV x u
 |_,_,_,_,.nil,e=>by simp at e
 |_,_,0,_,.cons r _,e=>by simp at e;subst e;exact⟨_,rfl,r⟩
 |_,_,i+1,x,.cons _ t,e=>by
  obtain⟨u,h1,h2⟩:=Vals.get (i:=i) (x:=x) t (by simpa using e);exact⟨u,by simpa using h1,h2⟩
theorem Vals.set{x:V}{u:Value}(r:RelV x u):∀{xs:List V} {us:List Value} (i:Nat),Vals xs us->Vals (xs.set i x) (us.set i u)
 |_,_,_,.nil=>.nil
 |_,_,0,.cons _ t=>.cons r t
 |_,_,i+1,.cons q t=>.cons q (Vals.set r i t)
theorem Vals.append{xs ys:List V}{us ws:List Value}(h:Vals xs us)(s:Vals ys ws):Vals (xs++ys) (us++ws):=by
 induction h with
 |nil=>exact s
 |cons r t ih=>exact .cons r ih
theorem Vals.take:∀{xs:List V} {us:List Value} (n:Nat),Vals xs us->Vals (xs.take n) (us.take n)
 |_,_,0,_=>.nil
 |_,_,_+1,.nil=>.nil
 |_,_,n+1,.cons r t=>.cons r (Vals.take n t)
theorem Vals.drop:∀{xs:List V} {us:List Value} (n:Nat),Vals xs us->Vals (xs.drop n) (us.drop n)
 |_,_,0,r=>r
 |_,_,_+1,.nil=>.nil
 |_,_,n+1,.cons _ t=>Vals.drop n t
def B0:Option V->Option Value->Prop
 |some v,some u=>RelV v u
 |none,none=>True
 |_,_=>False
def KV{κ:Type}:List (κ×V)->List (κ×Value)->Prop:=Paired λ(p:κ×V) (q:κ×Value)=>p.1=q.1/\RelV p.2 q.2
def kV:Key->V
 |.inl i=>.int i
 |.inr x=>.str x
inductive HO where
 |lst (xs:List V)
 |tup (xs:List V)
 |dK (kvs:List (Key×V))|dT (kvs:List (List Key×V))
 |set (S:Int->Bool) (n:Nat)
 |ins (C dx:Addr) (fs:List (Str×V))
 |own (x:Addr)
 |xd (fs:List (Str×V))
 |met (f x:Addr)
 |kF (lo hi:Int)
 |iL (o:Obj) (u:HO)
 |mP (ps:Array Value)
 |ext (φ:Heap->Prop)
noncomputable abbrev Hp:=Addr->Option HO
def upd(H:Hp)(a:Addr)(o:HO):Hp:=λb=>if b=a then some o else H b
theorem l0{H:Hp}{a:Addr}{o:HO}:upd H a o a=some o:=by unfold upd;rw[aG rfl]
theorem f9{H:Hp}{a b:Addr}{o:HO}(h:b≠a):upd H a o b=H b:=by unfold upd;rw[aE h]
theorem KL{H:Hp}{a b:Addr}{o u:HO}(h:H a=some o)(h':H b=some u)(d:o≠u):a≠b:=by
 intro e;subst e;rw[h] at h';exact d (aF h')
theorem j4{H:Hp}{a b:Addr}{o:HO}(h:H a=some o)(h':H b=none):a≠b:=by
 intro e;subst e;rw[h] at h';cases h'
def B8(h:Heap)(a:Addr)(items:Array Value):Prop:=∃o,h.get? a=some o/\o.cls=.type "tuple"/\(∃n,o.data=.seq items n)/\o.dict=none
theorem B8.tup{h:Heap}{a:Addr}{items:Array Value}(x:B8 h a items):IsTup h a items:=let ⟨o,e,c,d,_⟩:=x;⟨o,e,c,d⟩
theorem B8.new(h:Heap)(items:Array Value):B8 (h.push { cls:=.type "tuple",data:=.seq items }) h.objs.size items:=⟨_,ax _ rfl,rfl,⟨_,rfl⟩,rfl⟩
section
variable(P:Program)(w:World)
def j8(H:Hp)(h:Heap)(a:Addr):HO->Prop
 |.lst xs=>xs.length<=sizeLine/\∃(aQ:List Value) (n:Nat),Vals xs aQ/\h.get? a=some { cls:=.type "list",data:=.seq aQ.toArray n }
 |.tup xs=>xs.length<=sizeLine/\∃aQ:List Value,Vals xs aQ/\B8 h a aQ.toArray
 |.dK kvs=>kvs.length<=sizeLine/\(a==sysModules)=false/\∃vs,KV kvs vs/\h.DictOf (l6 P w) a vs
 |.dT kvs=>kvs.length<=sizeLine/\(a==sysModules)=false/\∃xs:List (List Key×Addr×Value),
   Paired (λ(p:List Key×V) (q:List Key×Addr×Value)=>p.1=q.1/\H q.2.1=some (.tup (p.1.map kV))/\RelV p.2 q.2.2) kvs xs /\
   ∃o es ep,h.get? a=some o/\o.ExactDict/\o.data=.dict es ep/\es.toList=xs.map (entryOfKey (tupleKind (l6 P w)))/\(xs.map (·.1)).Nodup
 |.set S n=>h.SetOf (intKind P w) a S n
 |.ins C dx fs=>H dx=some (.own a)/\fs.length<=1000/\dx≠a/\h.get? a=some (PySem.W.instObj C dx) /\
   ∃mA,h.Ns1 dx mA/\(∀f,B0 (fs.lookup f) (mA f))/\PySem.Within mA (fs.map (·.1))
 |.own _=>∃o,h.get? a=some o
 |.xd fs=>∃mA,h.Ns1 a mA/\∀f,B0 (fs.lookup f) (mA f)
 |.kF lo hi=>∃t u v,h.get? a=some { cls:=.type "range",data:=.fields #[.int lo t,.int hi u,.int 1 v] }
 |.iL o u=>h.get? a=some o/\j8 H h a u
 |.mP ps=>h.get? a=some { cls:=.none,data:=.fields ps }
 |.met f x=>h.get? a=some (PySem.W.methodObj (.ref f) (.ref x))
 |.ext φ=>φ h/\(∃o,h.get? a=some o)/\∀h1 h2:Heap,φ h1->(∀o,h1.get? a=some o->h2.get? a=some o)->φ h2
def ff(H:Hp)(h:Heap):Prop:=∀a o,H a=some o->j8 P w H h a o
end
section
variable{P:Program}{w:World}{H H':Hp}{h h':Heap}{a:Addr}{o:HO}
theorem j8.lt(x:j8 P w H h a o):a<h.objs.size:=by
 cases o with
 |lst xs=>obtain⟨_,_,_,_,e⟩:=x;exact au e
 |tup xs=>obtain⟨_,_,_,p⟩:=x;exact p.tup.lt
 |dK kvs=>obtain⟨_,_,_,_,o,_,_,e,_⟩:=x;exact au e
 |dT kvs=>obtain⟨_,_,_,_,o,_,_,e,_⟩:=x;exact au e
 |set S n=>obtain⟨o,_,_,_,e,_⟩:=x;exact au e
 |ins C dx fs=>obtain⟨_,_,_,e,_⟩:=x;exact au e
 |own y=>obtain⟨_,e⟩:=x;exact au e
 |xd fs=>obtain⟨_,⟨_,_,_,e,_⟩,_⟩:=x;exact au e
 |kF lo hi=>obtain⟨_,_,_,e⟩:=x;exact au e
 |iL ob u=>obtain⟨e,_⟩:=x;exact au e
 |mP ps=>exact au (show h.get? a=some _ from x)
 |met f y=>exact au (show h.get? a=some _ from x)
 |ext φ=>obtain⟨_,⟨_,e⟩,_⟩:=x;exact au e
theorem Paired.Cu{α β:Type}{F G:α->β->Prop}{qJ:List α}{qI:List β}(h:Paired F qJ qI)(f:∀a b,F a b->G a b):Paired G qJ qI:=by
 induction h with
 |nil=>exact .nil
 |cons r t ih=>exact .cons (f _ _ r) ih
theorem j8.M0(x:j8 P w H h a o)(k:∀b u,(b=a\/H b=some (.own a))->h.get? b=some u->h'.get? b=some u)(ho:∀b,H b=some (.own a)->H' b=some (.own a))(ht:∀b xs,H b=some (.tup xs)->H' b=some (.tup xs)):j8 P w H' h' a o:=by
 induction o with
 |lst xs=>obtain⟨z,aQ,n,r,e⟩:=x;exact⟨z,aQ,n,r,k _ _ (.inl rfl) e⟩
 |tup xs=>obtain⟨z,aQ,r,ob,e,c⟩:=x;exact⟨z,aQ,r,ob,k _ _ (.inl rfl) e,c⟩
 |dK kvs=>obtain⟨z,y,vs,r,ob,es,ep,e,c⟩:=x;exact⟨z,y,vs,r,ob,es,ep,k _ _ (.inl rfl) e,c⟩
 |dT kvs =>
  obtain⟨z,y,xs,r,ob,es,ep,e,c⟩:=x;exact⟨z,y,xs,Paired.Cu r λp q z=>⟨z.1,ht _ _ z.2.1,z.2.2⟩,ob,es,ep,k _ _ (.inl rfl) e,c⟩
 |set S n=>obtain⟨ob,es,ep,t,e,c⟩:=x;exact⟨ob,es,ep,t,k _ _ (.inl rfl) e,c⟩
 |ins C dx fs =>
  obtain⟨d,z,ne,e,mA,⟨od,es,ep,e2,c⟩,r⟩:=x;exact⟨ho _ d,z,ne,k _ _ (.inl rfl) e,mA,⟨od,es,ep,k _ _ (.inr d) e2,c⟩,r⟩
 |own y=>obtain⟨ob,e⟩:=x;exact⟨ob,k _ _ (.inl rfl) e⟩
 |xd fs=>obtain⟨mA,⟨od,es,ep,e,c⟩,r⟩:=x;exact⟨mA,⟨od,es,ep,k _ _ (.inl rfl) e,c⟩,r⟩
 |kF lo hi=>obtain⟨t,u,v,e⟩:=x;exact⟨t,u,v,k _ _ (.inl rfl) e⟩
 |iL ob u ih=>obtain⟨e,q⟩:=x;exact⟨k _ _ (.inl rfl) e,ih q⟩
 |mP ps =>
  have e:h.get? a=some { cls:=.none,data:=.fields ps }:=x;show h'.get? a=some { cls:=.none,data:=.fields ps };exact k a _ (.inl rfl) e
 |met f y =>
  have e:h.get? a=some (PySem.W.methodObj (.ref f) (.ref y)):=x;show h'.get? a=some (PySem.W.methodObj (.ref f) (.ref y));exact k a _ (.inl rfl) e
 |ext φ=>obtain⟨p,⟨o,e⟩,st⟩:=x;exact⟨st _ _ p λo q=>k _ _ (.inl rfl) q,⟨o,k _ _ (.inl rfl) e⟩,st⟩
theorem ff.lt(x:ff P w H h)(e:H a=some o):a<h.objs.size:=(x a o e).lt
theorem ff.fresh(x:ff P w H h)(e:h.objs.size<=a):H a=none:=by
 cases q:H a with
 |none=>rfl
 |some u=>exact absurd (ao (x.lt q) e) (ba _)
theorem ff.kept(x:ff P w H h)(k:∀b u,h.get? b=some u->h'.get? b=some u):ff P w H h':=λa o e =>
 (x a o e).M0 (λb u _ q=>k b u q) (λ_ q=>q) λ_ _ q=>q
theorem ff.laid(x:ff P w H h)(k:∀b u,h.get? b=some u->h'.get? b=some u)(hp:h.objs.size<=a)(new:j8 P w (upd H a o) h' a o):ff P w (upd H a o) h':=λb u e=>by
 have hn:=x.fresh hp;by_cases hb:b=a
 ·subst hb;rw[l0] at e;cases e;exact new
 ·rw[f9 hb] at e;exact(x b u e).M0 (λc v _ q=>k c v q) (λc q=>by rw[f9 (j4 q hn)];exact q) λc xs q=>by rw[f9 (j4 q hn)];exact q
end
def Rd(H:Hp)(a:Addr)(u:HO):Prop:=H a=some u\/∃o,H a=some (.iL o u)
theorem Rd.ok{P:Program}{w:World}{H:Hp}{h:Heap}{a:Addr}{u:HO}(r:Rd H a u)(x:ff P w H h):j8 P w H h a u:=by
 rcases r with r|⟨o,r⟩
 ·exact x a u r
 ·obtain⟨_,q⟩:=x a _ r;exact q
def tf:Option HO->Prop
 |some (.lst _)=>True
 |some (.dK _)=>True
 |some (.dT _)=>True
 |some (.set _ _)=>True
 |some (.ins _ _ _)=>True
 |some (.ext _)=>True
 |_=>False
section
variable{P:Program}{w:World}{H:Hp}{h h':Heap}{x e:Addr}{o':HO}
theorem ff.write(ok:ff P w H h)(mu:tf (H x))(he:e=x\/H e=some (.own x))(k:∀b u,b≠e->h.get? b=some u->h'.get? b=some u)(nj:∃u,h'.get? e=some u)(new:j8 P w (upd H x o') h' x o'):ff P w (upd H x o') h':=λb u q=>by
 have qz:∀c y,H c=some (.own y)->c≠x:=λc y r z=>by subst z;rw[r] at mu;exact mu
 have vS:∀c xs,H c=some (.tup xs)->c≠x:=λc xs r z=>by subst z;rw[r] at mu;exact mu
 by_cases hb:b=x
 ·subst hb;rw[l0] at q;cases q;exact new
 ·rw[f9 hb] at q;by_cases oy:b=e
  ·have q':H b=some (.own x):=by
    rcases he with z|z
    ·exact absurd (oy.trans z) hb
    ·rw[oy];exact z
   rw[q] at q';cases q';obtain⟨v,hv⟩:=nj;exact⟨v,by rw[oy];exact hv⟩
  ·refine(ok b u q).M0 (λc v hc r=>k c v ?_ r) (λc r=>by rw[f9 (qz c b r)];exact r) λc xs r=>by rw[f9 (vS c xs r)];exact r
   rcases hc with rfl|hc
   ·exact oy
   ·rintro rfl;rcases he with z|z
    ·exact qz c b hc z
    ·rw[hc] at z;cases z;exact hb rfl
end
structure Un(fs ex:List Addr)(H H':Hp)(h h':Heap):Prop where
 keep:∀b o,h.get? b=some o->H b=none->b∉fs->b∉ex->h'.get? b=some o
 slot:∀b o,h.get? b=some o->H b=none->b∈fs->b∉ex->∃sl,h'.get? b=some { o with slots:=sl }
 free:∀b o,h.get? b=some o->H b=none->b∉ex->H' b=none
 there:∀b o,h.get? b=some o->b∉ex->∃o',h'.get? b=some o'
 fY:∀b xs,H b=some (.tup xs)->H' b=some (.tup xs)
 fL:∀b o u,H b=some (.iL o u)->H' b=some (.iL o u)
 fZ:∀b ps,H b=some (.mP ps)->∃more,H' b=some (.mP (ps++more))
section
variable{fs nz ex XN:List Addr}{H H1 H2:Hp}{h h1 h2 h':Heap}{a x e:Addr}{o:HO}
theorem Un.any(u:Un fs ex H H1 h h1){b:Addr}{ob:Obj}(q:h.get? b=some ob)(n:H b=none)(hx:b∉ex):∃sl,h1.get? b=some { ob with slots:=sl }:=by
 by_cases hb:b∈fs
 ·exact u.slot b ob q n hb hx
 ·exact⟨ob.slots,u.keep b ob q n hb hx⟩
theorem Un.kept(k:∀b u,h.get? b=some u->h'.get? b=some u):Un fs ex H H h h' :=
 ⟨λb ob q _ _ _=>k b ob q,λb ob q _ _ _=>⟨ob.slots,k b ob q⟩,λ_ _ _ n _=>n,λb ob q _=>⟨ob,k b ob q⟩,λ_ _ q=>q,λ_ _ _ q=>q,λ_ ps q=>⟨#[],by rw[q];simp⟩⟩
theorem Un.refl:Un fs ex H H h h:=Un.kept λ_ _ q=>q
theorem Un.laid(k:∀b u,h.get? b=some u->h'.get? b=some u)(hp:h.objs.size<=a)(hn:H a=none):Un fs ex H (upd H a o) h h' where
 keep:=λb u q _ _ _=>k b u q
 slot:=λb u q _ _ _=>⟨u.slots,k b u q⟩
 free:=λb u q n _=>by rw[f9 (aK (ao (au q) hp))];exact n
 there:=λb u q _=>⟨u,k b u q⟩
 fY:=λb xs q=>by rw[f9 (j4 q hn)];exact q
 fL:=λb u xs q=>by rw[f9 (j4 q hn)];exact q
 fZ:=λb ps q=>⟨#[],by rw[f9 (j4 q hn),q];simp⟩
theorem Un.write(mu:tf (H x))(he:e=x\/H e=some (.own x))(k:∀b u,b≠e->h.get? b=some u->h'.get? b=some u)(nj:∃u,h'.get? e=some u):Un fs ex H (upd H x o) h h':=by
 have hx:∀b,H b=none->b≠x:=λb n z=>by subst z;rw[n] at mu;exact mu
 have hb:∀b,H b=none->b≠e:=λb n z=>by
  subst z;rcases he with r|r
  ·exact hx b n r
  ·rw[n] at r;cases r
 have hm:∀b u,H b=some u->¬tf (some u)->b≠x:=λb u q nm z=>by subst z;rw[q] at mu;exact nm mu
 refine ⟨λb u q n _ _=>k b u (hb b n) q,λb u q n _ _=>⟨u.slots,k b u (hb b n) q⟩,λb u q n _=>by rw [f9 (hx b n)];exact n,λb u q _=>?_,
  λb xs q=>by rw [f9 (hm b _ q λz=>z)];exact q,λb u xs q=>by rw [f9 (hm b _ q λz=>z)];exact q,λb ps q=>⟨#[],by rw [f9 (hm b _ q λz=>z),q];simp⟩⟩
 by_cases oy:b=e
 ·subst oy;exact nj
 ·exact⟨u,k b u oy q⟩
end
def mr(h:Heap)(H:Hp):List Addr:=(List.range h.objs.size).filter λa=>(H a).isSome
def U3(h:Heap)(H:Hp):Heap:=PySem.W.hideAll h (mr h H)
theorem TJ(h:Heap)(H:Hp):(U3 h H).objs.size=h.objs.size:=PySem.W.hideAll_size _ _
theorem WK{h:Heap}{H:Hp}{b:Addr}{o:Obj}(e:h.get? b=some o)(n:H b=none):(U3 h H).get? b=some o :=
 Ao _ e λhm=>by
  have q:(H b).isSome=true:=(cg.mp hm).2;rw[n] at q;simp at q
theorem OU{h:Heap}{H:Hp}{b:Addr}{o:Obj}(e:(U3 h H).get? b=some o):h.get? b=some o/\H b=none:=by
 have e':h.get? b=some o:=GA (mr h H) e;refine⟨e',?_⟩;cases q:H b with
 |none=>rfl
 |some x =>
  have hm:b∈mr h H:=cg.mpr ⟨cv.mpr (au e'),by simp[q]⟩;have z:(U3 h H).get? b=none:=PySem.W.hideAll_none (mr h H) hm;rw[z] at e;cases e
structure Mod(K:PySem.W.Frag)(mg:Str->Option Value)(base:Heap):Prop where
 lA:K.In base
 glob:base.Ns mainGlobals mg
 blt:∃mb,base.Ns builtinsNs mb/\∀x:Str,x≠"__name__"->mb x=bootBuiltins x
 nolimit:base.NoLimit
structure Cx where
 prog:Program
 w:World
 K:PySem.W.Frag
 mg:Str->Option Value
 base:Heap
 A:Around
 N:List Str
 cE:Shared
 ij:Hp
 env:Env
 outer:List Env
 stack:List Env
 ex:List Addr
 fn:Str->Bool
 calm:Bool
 pn:List (Addr×Obj)
 xe:Value->Shared->Prop
def eP(l:List Env):List Addr:=l.filterMap (·.frame)
noncomputable abbrev Cx.fs(X:Cx):List Addr:=eP X.outer
def sV(sc:Scope)(x:Str):Prop:=sc.names.lookup x=some .local\/sc.names.lookup x=some .cell\/sc.names.lookup x=some .free
def Loc(sc:Scope)(x:Str):Prop:=sc.names.lookup x=some .local\/sc.names.lookup x=some .cell
def Look(env:Env)(h:Heap)(m:Str->Option Value)(x:Str)(u:Value):Prop :=
 (env.kindOf x=some .local/\m x=some u)\/((env.kindOf x=some .cell\/env.kindOf x=some .free)/\∃c,env.cells.lookup x=some c/\h.IsCell c (some u))
structure Cx.Ok(X:Cx):Prop where
 mod:Mod X.K X.mg X.base
 kind:X.env.scope.kind=.function
 glob:X.env.globals=mainGlobals
 blt:X.env.builtins=builtinsNs
 above:X.cE.heap.objs.size<=X.env.locals
 inj:∀x y c,X.env.cells.lookup x=some c->X.env.cells.lookup y=some c->x=y
 has:∀x,(X.env.kindOf x=some .cell\/X.env.kindOf x=some .free)->∃c,X.env.cells.lookup x=some c
 nF:∀x c,X.fn x=true->X.env.cells.lookup x=some c->X.cE.heap.objs.size<=c
 hd:X.calm=true->X.A.handled=none
 frames:X.A.frames=some X.stack
 nS:X.stack=X.outer\/(X.stack=X.env::X.outer/\X.env.frame=some X.env.locals)
 rZ:∀b∈X.ex,b≠X.env.locals/\∀x c,X.env.cells.lookup x=some c->c≠b
 bs:∀b o,X.base.get? b=some o->X.cE.heap.get? b=some o/\X.ij b=none
 lP:X.base.objs.size<=X.cE.heap.objs.size
 jh:∀b o,X.base.get? b=some o->b∉X.ex
 jM:∀b∈X.ex,b∉X.fs
 C2:X.cE.heap.FunFrames X.base X.outer
 lY:∀b∈X.fs,X.ij b=none
structure Inv(X:Cx)(pins:List (Addr×Obj))(Z:List (Option V))(H:Hp)(s:Shared):Prop where
 ok:X.Ok
 os:s.os=X.cE.os
 bare:AllBare s.gens
 base:Un X.fs X.ex X.ij H X.cE.heap s.heap
 loc:∃m,s.heap.Ns X.env.locals m/\∀(i:Nat) (x:Str) (v:V),X.N[i]?=some x->Z[i]?=some (some v)->sV X.env.scope x->∃u,RelV v u/\Look X.env s.heap m x u
 cell:∀x c,X.env.cells.lookup x=some c->∃v,s.heap.IsCell c v
 free:H X.env.locals=none
 dA:∀x c,X.env.cells.lookup x=some c->H c=none
 pin:∀p∈X.pn++pins,s.heap.get? p.1=some p.2/\H p.1=none/\p.1≠X.env.locals/\p.1∉X.fs/\∀v,p.2.data≠.cell v
 bx:ff X.prog X.w H s.heap
 len:Z.length=X.N.length
section
variable{X:Cx}{pins:List (Addr×Obj)}{Z:List (Option V)}{H H':Hp}{s:Shared}{h':Heap}
theorem Cx.Ok.Qe(ok:X.Ok){b:Addr}{o:Obj}(e:X.base.get? b=some o):b∉X.fs:=λhb=>by
 have:=(ok.C2.mem hb).1;rw[e] at this;cases this
theorem Inv.bs(I:Inv X pins Z H s):∀b o,X.base.get? b=some o->s.heap.get? b=some o/\H b=none:=λb o e =>
 ⟨I.base.keep b o (I.ok.bs b o e).1 (I.ok.bs b o e).2 (I.ok.Qe e) (I.ok.jh b o e),I.base.free b o (I.ok.bs b o e).1 (I.ok.bs b o e).2 (I.ok.jh b o e)⟩
theorem Inv.bk(I:Inv X pins Z H s):∀b o,X.base.get? b=some o->s.heap.get? b=some o:=λb o e=>(I.bs b o e).1
theorem Inv.mod(I:Inv X pins Z H s):Mod X.K X.mg X.base:=I.ok.mod
theorem Inv.fu(I:Inv X pins Z H s):X.K.In s.heap:=I.ok.mod.lA.keeps I.bk
theorem Inv.lt(I:Inv X pins Z H s):X.env.locals<s.heap.objs.size:=let ⟨_,hn,_⟩:=I.loc;hn.lt
theorem Inv.sz(I:Inv X pins Z H s):X.cE.heap.objs.size<=s.heap.objs.size:=aO I.ok.above (dt I.lt)
theorem Inv.sG(I:Inv X pins Z H s){a:Addr}(h:s.heap.objs.size<=a):a∉X.fs:=λhb=>by
 obtain⟨_,o,ho,_⟩:=I.ok.C2.mem hb;exact absurd (ao (au ho) (aO I.sz h)) (ba _)
theorem Inv.oO(I:Inv X pins Z H s):∀x c,X.env.cells.lookup x=some c->c≠X.env.locals:=λx c e z=>by
 obtain⟨v,o,ho,hd⟩:=I.cell x c e;obtain⟨m,⟨o',es,ep,lE,wK,_⟩,_⟩:=I.loc;rw[z,lE] at ho;cases ho;rw[wK] at hd;cases hd
theorem Inv.C2(I:Inv X pins Z H s):s.heap.FunFrames X.base X.outer:=by
 have all:∀(l:List Env),(∀b∈eP l,b∈X.fs)->X.cE.heap.FunFrames X.base l->s.heap.FunFrames X.base l:=by
  intro l
  induction l with
  |nil=>intro _ _;trivial
  |cons env r ih =>
   intro hs hl;obtain⟨hk,⟨L,o,hf,hn,ho,hd⟩,hr⟩:=hl;have hL:L∈X.fs:=hs L (by unfold eP;rw[dy,hf];exact fh);obtain⟨sl,e⟩:=I.base.slot L o ho (I.ok.lY L hL) hL λz=>I.ok.jM L z hL;exact⟨hk,⟨L,_,hf,hn,e,hd⟩,ih (λb hb=>hs b (by unfold eP;rw[dy,hf];exact bB _ hb)) hr⟩
 exact all X.outer (λ_ hb=>hb) I.ok.C2
theorem Inv.stack(I:Inv X pins Z H s):s.heap.FunFrames X.base X.stack:=by
 rcases I.ok.nS with e|⟨e,hf⟩
 ·rw[e];exact I.C2
 ·rw[e];obtain⟨m,hn,_⟩:=I.loc;refine .cons (by rw[I.ok.kind];decide) hf hn ?_ I.C2;exact Heap.get?_none_of_le (aO I.ok.lP I.ok.above)
theorem Inv.E5(I:Inv X pins Z H s):∀b∈eP X.stack,b∈X.env.locals::X.fs:=λb hb=>by
 rcases I.ok.nS with e|⟨e,hf⟩
 ·rw[e] at hb;exact bB _ hb
 ·rw[e] at hb;unfold eP at hb;rw[dy,hf] at hb;exact hb
theorem Inv.Z6(I:Inv X pins Z H s):∀b∈eP X.stack,H b=none:=λb hb=>by
 rcases az.mp (I.E5 b hb) with e|hb
 ·rw[e];exact I.free
 ·obtain⟨_,o,ho,_⟩:=I.ok.C2.mem hb;exact I.base.free b o ho (I.ok.lY b hb) λz=>I.ok.jM b z hb
theorem Inv.step{g':Array GenState}{t':Nat}{d':Drawn}{ch:List Addr}(I:Inv X pins Z H s)(lW:∀b∈ch,(b∈X.ex\/X.cE.heap.objs.size<=b)/\b≠X.env.locals/\(∀x c,X.env.cells.lookup x=some c->c≠b)/\∀p∈X.pn++pins,p.1≠b)(keep:∀b o,b≠X.env.locals->b∉X.fs->b∉ch->s.heap.get? b=some o->H b=none->h'.get? b=some o)(slot:∀b o,b≠X.env.locals->b∈X.fs->b∉ch->s.heap.get? b=some o->H b=none->∃sl,h'.get? b=some { o with slots:=sl })(free:∀b o,b∉ch->s.heap.get? b=some o->H b=none->H' b=none)(there:∀b o,b∉ch->s.heap.get? b=some o->∃o',h'.get? b=some o')(fY:∀b xs,H b=some (.tup xs)->H' b=some (.tup xs))(fL:∀b o u,H b=some (.iL o u)->H' b=some (.iL o u))(fZ:∀b ps,H b=some (.mP ps)->∃more,H' b=some (.mP (ps++more)))(ns:∀m,s.heap.Ns X.env.locals m->h'.Ns X.env.locals m)(bx:ff X.prog X.w H' h')(hg:AllBare g') :
  Inv X pins Z H' { s with heap:=h',gens:=g',drawn:=d',toks:=t' }:=by
 have AS:∀b o,X.cE.heap.get? b=some o->b≠X.env.locals:=λb o e=>aK (ao (au e) I.ok.above);have mV:∀b o,X.cE.heap.get? b=some o->b∉X.ex->b∉ch:=λb o e hx hb=>by
  rcases(lW b hb).1 with z|z
  ·exact hx z
  ·exact absurd (ao (au e) z) (ba _)
 have cellK:∀x c,X.env.cells.lookup x=some c->∀v,s.heap.IsCell c v->h'.IsCell c v:=λx c e v aX=>by
  obtain⟨o,ho,hd⟩:=aX;have qH:c∉ch:=λz=>(lW c z).2.2.1 x c e rfl;by_cases hc:c∈X.fs
  ·obtain⟨sl,q⟩:=slot c o (I.oO x c e) hc qH ho (I.dA x c e);exact⟨_,q,hd⟩
  ·exact⟨o,keep c o (I.oO x c e) hc qH ho (I.dA x c e),hd⟩
 refine⟨I.ok,I.os,hg,⟨λb o e n hb hx=>?_,λb o e n hb hx=>?_,λb o e n hx=>?_,λb o e hx=>?_,λb xs e=>fY b xs (I.base.fY b xs e),λb o xs e=>fL b o xs (I.base.fL b o xs e),λb ps e=>?_⟩,?_,λx c e=>?_,?_,λx c e=>?_,λp hp=>?_,bx,I.len⟩
 ·exact keep b o (AS b o e) hb (mV b o e hx) (I.base.keep b o e n hb hx) (I.base.free b o e n hx)
 ·obtain⟨sl,e1⟩:=I.base.slot b o e n hb hx;obtain⟨Hd,e2⟩:=slot b _ (AS b o e) hb (mV b o e hx) e1 (I.base.free b o e n hx);exact⟨Hd,e2⟩
 ·obtain⟨o',e1⟩:=I.base.there b o e hx;exact free b o' (mV b o e hx) e1 (I.base.free b o e n hx)
 ·obtain⟨o',e1⟩:=I.base.there b o e hx;exact there b o' (mV b o e hx) e1
 ·obtain⟨m1,e1⟩:=I.base.fZ b ps e;obtain⟨m2,e2⟩:=fZ b _ e1;exact⟨m1++m2,by rw[e2,GH]⟩
 ·obtain⟨m,hn,hl⟩:=I.loc;refine⟨m,ns m hn,λi x v e1 e2 e3=>?_⟩;obtain⟨u,r,l⟩:=hl i x v e1 e2 e3;refine⟨u,r,?_⟩;rcases l with l|⟨k,c,e,z⟩
  ·exact .inl l
  ·exact .inr ⟨k,c,e,cellK x c e _ z⟩
 ·obtain⟨v,z⟩:=I.cell x c e;exact⟨v,cellK x c e v z⟩
 ·obtain⟨m,⟨o,_,_,ho,_⟩,_⟩:=I.loc;exact free _ o (λz=>(lW _ z).2.1 rfl) ho I.free
 ·obtain⟨v,o,ho,hd⟩:=I.cell x c e;exact free c o (λz=>(lW c z).2.2.1 x c e rfl) ho (I.dA x c e)
 ·obtain⟨e,n,ne,nf,d⟩:=I.pin p hp;have qH:p.1∉ch:=λz=>(lW p.1 z).2.2.2 p hp rfl;exact⟨keep p.1 p.2 ne nf qH e n,free p.1 p.2 qH e n,ne,nf,d⟩
theorem Inv.un{t':Nat}(I:Inv X pins Z H s)(u:Un X.fs [] H H' s.heap h')(bx:ff X.prog X.w H' h'):Inv X pins Z H' { s with heap:=h',toks:=t' }:=by
 obtain⟨m,⟨o,es,ep,ho,r⟩,_⟩:=id I.loc;obtain⟨sl,hL⟩:=u.any ho I.free (by simp);exact I.step (g':=s.gens) (d':=s.drawn) (ch:=[]) (λ_ z=>nomatch z) (λb o _ hb _ e n=>u.keep b o e n hb (by simp)) (λb o _ hb _ e n=>u.slot b o e n hb (by simp)) (λb o _ e n=>u.free b o e n (by simp)) (λb o _ e=>u.there b o e (by simp)) u.fY u.fL u.fZ (λm' hm=>by
  obtain⟨o',xO,xQ,lE,r'⟩:=hm;rw[ho] at lE;cases lE;exact ⟨_,xO,xQ,hL,r'⟩) bx I.bare
theorem Inv.call{g':Array GenState}{t':Nat}{d':Drawn}{ch:List Addr}(I:Inv X pins Z H s)(u:Un (eP X.stack) ch H H' s.heap h')(bx:ff X.prog X.w H' h')(hg:AllBare g')(lW:∀b∈ch,(b∈X.ex\/X.cE.heap.objs.size<=b)/\b≠X.env.locals/\(∀x c,X.env.cells.lookup x=some c->c≠b)/\∀p∈X.pn++pins,p.1≠b) :
  Inv X pins Z H' { s with heap:=h',gens:=g',drawn:=d',toks:=t' }:=by
 obtain⟨m,⟨o,es,ep,ho,r⟩,_⟩:=id I.loc;obtain⟨sl,hL⟩:=u.any ho I.free λz=>(lW _ z).2.1 rfl;exact I.step (ch:=ch) lW (λb o hL hb hc e n=>u.keep b o e n (λz=>(az.mp (I.E5 b z)).elim hL hb) hc) (λb o _ _ hc e n=>u.any e n hc) (λb o hc e n=>u.free b o e n hc) (λb o hc e=>u.there b o e hc) u.fY u.fL u.fZ (λm' hm=>by
  obtain⟨o',xO,xQ,lE,r'⟩:=hm;rw[ho] at lE;cases lE;exact ⟨_,xO,xQ,hL,r'⟩) bx hg
theorem Inv.turned{t':Nat}{it:Addr}(I:Inv X pins Z H s)(k:∀b o,b≠it->s.heap.get? b=some o->h'.get? b=some o)(hn:H it=none)(hL:it≠X.env.locals)(h1:it∈X.ex\/X.cE.heap.objs.size<=it)(h2:∀x c,X.env.cells.lookup x=some c->c≠it)(h3:∀p∈X.pn++pins,p.1≠it):Inv X pins Z H { s with heap:=h',toks:=t' }:=by
 have AR:∀b u,H b=some u->b≠it:=λb u e z=>by rw[z,hn] at e;cases e
 refine I.step (g':=s.gens) (d':=s.drawn) (ch:=[it]) (λb hb=>?_) (λb o _ _ hc e _=>k b o (λz=>hc (by simp[z])) e) (λb o _ _ hc e _=>⟨o.slots,k b o (λz=>hc (by simp[z])) e⟩) (λ_ _ _ _ n=>n)
  (λb o hc e=>⟨o,k b o (λz=>hc (by simp[z])) e⟩) (λ_ _ e=>e) (λ_ _ _ e=>e) (λb ps e=>⟨#[],by rw[e];simp⟩) (λm hm=>?_) (λb u e=>?_) I.bare
 ·have e:b=it:=by simpa using hb
  subst e;exact⟨h1,hL,h2,h3⟩
 ·obtain⟨o,es,ep,ho,r⟩:=hm;exact⟨o,es,ep,k _ o (bR hL) ho,r⟩
 ·refine(I.bx b u e).M0 (λc v hc q=>k c v ?_ q) (λ_ q=>q) λ_ _ q=>q;rcases hc with z|z
  ·rw[z];exact AR b u e
  ·exact AR c _ z
theorem Inv.tok(I:Inv X pins Z H s)(t:Nat):Inv X pins Z H { s with toks:=t }:=I.un (h':=s.heap) (t':=t) Un.refl I.bx
theorem Inv.kept{t':Nat}(I:Inv X pins Z H s)(k:∀b u,s.heap.get? b=some u->h'.get? b=some u):Inv X pins Z H { s with heap:=h',toks:=t' }:=I.un (Un.kept k) (I.bx.kept k)
theorem Inv.laid{a:Addr}{o:HO}{t':Nat}(I:Inv X pins Z H s)(k:∀b u,s.heap.get? b=some u->h'.get? b=some u)(hp:s.heap.objs.size<=a)(new:j8 X.prog X.w (upd H a o) h' a o) :
  Inv X pins Z (upd H a o) { s with heap:=h',toks:=t' }:=I.un (Un.laid k hp (I.bx.fresh hp)) (I.bx.laid k hp new)
theorem Inv.write{x e:Addr}{o:HO}{t':Nat}(I:Inv X pins Z H s)(mu:tf (H x))(he:e=x\/H e=some (.own x))(k:∀b u,b≠e->s.heap.get? b=some u->h'.get? b=some u)(nj:∃u,h'.get? e=some u)(new:j8 X.prog X.w (upd H x o) h' x o):Inv X pins Z (upd H x o) { s with heap:=h',toks:=t' }:=I.un (Un.write mu he k nj) (I.bx.write mu he k nj new)
theorem Inv.weak{bI:List (Option V)}(I:Inv X pins Z H s)(hl:bI.length=Z.length)(w:∀(i:Nat) v,bI[i]?=some (some v)->Z[i]?=some (some v)):Inv X pins bI H s :=
 ⟨I.ok,I.os,I.bare,I.base,let ⟨m,hn,pA⟩:=I.loc;⟨m,hn,λi x v e1 e2 e3=>pA i x v e1 (w i v e2) e3⟩,I.cell,I.free,I.dA,I.pin,I.bx,hl.trans I.len⟩
theorem Inv.C5{gP:List (Addr×Obj)}(I:Inv X pins Z H s)(h:∀p∈gP,s.heap.get? p.1=some p.2/\H p.1=none/\p.1≠X.env.locals/\p.1∉X.fs/\∀v,p.2.data≠.cell v):Inv X gP Z H s :=
 ⟨I.ok,I.os,I.bare,I.base,I.loc,I.cell,I.free,I.dA,λp hp=>(bt.mp hp).elim (λz=>I.pin p (dk _ z)) (h p),I.bx,I.len⟩
theorem CU{N:List Str}(hN:N.Nodup){i j:Nat}{x:Str}(a:N[i]?=some x)(b:N[j]?=some x):i=j:=by
 obtain⟨h1,e1⟩:=av.mp a;obtain⟨h2,e2⟩:=av.mp b;exact(Yb hN).mp (e1.trans e2.symm)
theorem DN{M:Model}{A:Around}{E:Value->Shared->Prop}{i:Nat}{x:Str}{v:V}{u:Value}{Q:Unit->Shared->Prop}(I:Inv X pins Z H s)(hN:X.N.Nodup)(hi:X.N[i]?=some x)(hx:Loc X.env.scope x)(r:RelV v u)(h:∀s',Inv X pins (Z.set i (some v)) H s'->(∃a,Heap.SameBut a s.heap s'.heap/\(a=X.env.locals\/X.env.cells.lookup x=some a))->Q () s')(hf:X.fn x=true\/X.env.scope.names.lookup x=some .local:=by first|exact .inl rfl|exact .inr rfl|assumption):wpAny M A (storeName X.env x u) Q E s:=by
 obtain⟨m,hn,hl⟩:=id I.loc;have ko:(X.env.scope.kind==.class||(X.env.scope.kind==.module&&X.env.locals != X.env.globals))=false:=by rw[I.ok.kind];rfl
 have rz:i<Z.length:=by rw[I.len];exact(av.mp hi).1
 have oO:=I.oO;have tracked:∀{a:Addr} {h':Heap},(∃o,s.heap.get? a=some o/\H a=none)->Heap.SameBut a s.heap h'->ff X.prog X.w H h':=λ{a h'} ha hs b ob e=>by
  obtain⟨_,_,jo⟩:=ha;refine(I.bx b ob e).M0 (λc w' hc q=>(hs.2 c ?_).trans q) (λ_ q=>q) λ_ _ q=>q;rintro rfl;rcases hc with rfl|hc
  ·rw[jo] at e;cases e
  ·rw[jo] at hc;cases hc
 rcases hx with hk|hk
 ·refine wpAny_storeName_local hk hn (λh' HN hs=>?_) ko;obtain⟨oL,_,_,rg,_⟩:=id hn;refine h _ ⟨I.ok,I.os,I.bare,⟨λb o e n hb hx=>?_,λb o e n hb hx=>?_,I.base.free,λb o e hx=>?_,I.base.fY,I.base.fL,I.base.fZ⟩,⟨_,HN,λj y v' e1 e2 e3=>?_⟩,λy c e=>?_,I.free,I.dA,λp hp=>?_,tracked ⟨oL,rg,I.free⟩ hs,by simpa using I.len⟩ ⟨_,hs,.inl rfl⟩
  ·exact(hs.2 b (aK (ao (au e) I.ok.above))).trans (I.base.keep b o e n hb hx)
  ·obtain⟨sl,e1⟩:=I.base.slot b o e n hb hx;exact⟨sl,(hs.2 b (aK (ao (au e) I.ok.above))).trans e1⟩
  ·obtain⟨o',e1⟩:=I.base.there b o e hx;exact⟨o',(hs.2 b (aK (ao (au e) I.ok.above))).trans e1⟩
  ·by_cases hj:j=i
   ·subst hj;rw[hi] at e1;cases e1;rw[aP rz] at e2;cases e2;exact⟨u,r,.inl ⟨hk,by simp⟩⟩
   ·rw[aB (bR hj)] at e2;obtain⟨u',r',q⟩:=hl j y v' e1 e2 e3;refine⟨u',r',?_⟩;rcases q with⟨k,e⟩|⟨k,c,e,z⟩
    ·refine .inl ⟨k,?_⟩;have:y≠x:=λe=>hj (CU hN e1 (e▸hi));simp[this,e]
    ·exact .inr ⟨k,c,e,z.sameBut hs (oO y c e)⟩
  ·obtain⟨w',z⟩:=I.cell y c e;exact⟨w',z.sameBut hs (oO y c e)⟩
  ·obtain⟨e,n,ne,nf,d⟩:=I.pin p hp;exact⟨(hs.2 p.1 ne).trans e,n,ne,nf,d⟩
 ·have pC:X.fn x=true:=by
   rcases hf with z|z
   ·exact z
   ·rw[z] at hk;cases hk
  obtain⟨c,hc⟩:=I.ok.has x (.inl hk);obtain⟨w',z⟩:=I.cell x c hc;refine wpAny_storeName_cell I.ok.kind hk hc z (λh' iu hs=>?_);obtain⟨oc,wx,wu⟩:=id z;refine h { s with heap:=h' } ⟨I.ok,I.os,I.bare,⟨λb o e n hb hx=>?_,λb o e n hb hx=>?_,I.base.free,λb o e hx=>?_,I.base.fY,I.base.fL,I.base.fZ⟩,⟨m,hn.sameBut hs (bR (oO x c hc)),λj y v' e1 e2 e3=>?_⟩,λy c' e=>?_,I.free,I.dA,λp hp=>?_,tracked ⟨oc,wx,I.dA x c hc⟩ hs,by simpa using I.len⟩ ⟨c,hs,.inr hc⟩
  ·exact(hs.2 b (aK (ao (au e) (I.ok.nF x c pC hc)))).trans (I.base.keep b o e n hb hx)
  ·obtain⟨sl,e1⟩:=I.base.slot b o e n hb hx;exact⟨sl,(hs.2 b (aK (ao (au e) (I.ok.nF x c pC hc)))).trans e1⟩
  ·obtain⟨o',e1⟩:=I.base.there b o e hx;exact⟨o',(hs.2 b (aK (ao (au e) (I.ok.nF x c pC hc)))).trans e1⟩
  ·by_cases hj:j=i
   ·subst hj;rw[hi] at e1;cases e1;rw[aP rz] at e2;cases e2;exact⟨u,r,.inr ⟨.inl hk,c,hc,iu⟩⟩
   ·rw[aB (bR hj)] at e2;obtain⟨u',r',q⟩:=hl j y v' e1 e2 e3;refine⟨u',r',?_⟩;rcases q with q|⟨k,c',e,z'⟩
    ·exact .inl q
    ·refine .inr ⟨k,c',e,z'.sameBut hs ?_⟩;rintro rfl;exact hj (CU hN e1 (I.ok.inj _ _ _ e hc▸hi))
  ·by_cases pE:c'=c
   ·subst pE;exact⟨_,iu⟩
   ·obtain⟨w2,z2⟩:=I.cell y c' e;exact⟨w2,z2.sameBut hs pE⟩
  ·obtain⟨e,n,ne,nf,d⟩:=I.pin p hp;refine⟨(hs.2 p.1 ?_).trans e,n,ne,nf,d⟩;intro q;rw[q,wx] at e;have q':oc=p.2:=aF e;exact d w' (by rw[<- q'];exact wu)
theorem L9{M:Model}{A:Around}{E:Value->Shared->Prop}{i:Nat}{x:Str}{v:V}{u:Value}{Q:Unit->Shared->Prop}(I:Inv X pins Z H s)(hN:X.N.Nodup)(hi:X.N[i]?=some x)(hx:Loc X.env.scope x)(r:RelV v u)(h:∀s',Inv X pins (Z.set i (some v)) H s'->Q () s')(hf:X.fn x=true\/X.env.scope.names.lookup x=some .local:=by first|exact .inl rfl|exact .inr rfl|assumption):wpAny M A (storeName X.env x u) Q E s :=
 DN I hN hi hx r (λs' I' _=>h s' I') hf
theorem Inv.zw{s':Shared}{ch:List Addr}(I:Inv X pins Z H s)(ho:s'.os=s.os)(u:Un (eP X.stack) ch H H' s.heap s'.heap)(bx:ff X.prog X.w H' s'.heap)(hg:AllBare s'.gens)(lW:∀b∈ch,(b∈X.ex\/X.cE.heap.objs.size<=b)/\b≠X.env.locals/\(∀x c,X.env.cells.lookup x=some c->c≠b)/\∀p∈X.pn++pins,p.1≠b):Inv X pins Z H' s':=by
 obtain⟨h',g',d',t',o'⟩:=s';have e:o'=s.os:=ho;subst e;exact I.call (g':=g') (t':=t') (d':=d') u bx hg lW
end
noncomputable abbrev XK:=Value->Option Addr->Hp->Prop
noncomputable abbrev St:=List (Option V)
noncomputable abbrev VK:=V->Hp->Prop
noncomputable abbrev TE:=St->Hp->VK->Prop
noncomputable abbrev TT:=St->Hp->(Bool->Hp->Prop)->Prop
noncomputable abbrev TA:=St->Hp->(List V->Hp->Prop)->Prop
structure Ends where
 nx:St->Hp->Prop
 rt:VK
 bk:St->Hp->Prop:=λ_ _=>False
 ct:St->Hp->Prop:=λ_ _=>False
noncomputable abbrev TS:=Ends->St->Hp->Prop
def EP(X:Cx)(pins:List (Addr×Obj))(Z:St)(Q:VK)(u:Value)(s':Shared):Prop:=∃v H',Inv X pins Z H' s'/\RelV v u/\Q v H'
def TP(X:Cx)(pins:List (Addr×Obj))(Z:St)(Q:Bool->Hp->Prop)(b:Bool)(s':Shared):Prop:=∃H',Inv X pins Z H' s'/\Q b H'
def AP(X:Cx)(pins:List (Addr×Obj))(Z:St)(Q:List V->Hp->Prop)(us:List Value)(s':Shared):Prop:=∃vs H',Inv X pins Z H' s'/\Vals vs us/\Q vs H'
def SP(X:Cx)(pins:List (Addr×Obj))(D:Ends)(f:Flow)(s':Shared):Prop :=
 match f with
 |.next=>∃bI H',Inv X pins bI H' s'/\D.nx bI H'
 |.brk=>∃bI H',Inv X pins bI H' s'/\D.bk bI H'
 |.cont=>∃bI H',Inv X pins bI H' s'/\D.ct bI H'
 |.ret u=>∃v bI H',Inv X pins bI H' s'/\RelV v u/\D.rt v H'
def PE(X:Cx)(e:Expr)(t:TE):Prop :=
 ∀(pins:List (Addr×Obj)) (s:Shared) (Z:St) (H:Hp) (Q:VK),Inv X pins Z H s->t Z H Q->wpAny (model X.prog X.w) X.A (eval e X.env) (EP X pins Z Q) X.xe s
def PT(X:Cx)(e:Expr)(t:TT):Prop :=
 ∀(pins:List (Addr×Obj)) (s:Shared) (Z:St) (H:Hp) (Q:Bool->Hp->Prop),Inv X pins Z H s->t Z H Q->wpAny (model X.prog X.w) X.A (isTrue e X.env (eval e X.env)) (TP X pins Z Q) X.xe s
def PW(X:Cx)(e:Expr)(t:TT):Prop :=
 ∀(whole:Sem Value) (pins:List (Addr×Obj)) (s:Shared) (Z:St) (H:Hp) (Q:Bool->Hp->Prop),Inv X pins Z H s->t Z H Q->wpAny (model X.prog X.w) X.A (isTrue e X.env whole) (TP X pins Z Q) X.xe s
theorem PW.pt{X:Cx}{e:Expr}{t:TT}(h:PW X e t):PT X e t:=h _
def PA(X:Cx)(es:List Expr)(t:TA):Prop :=
 ∀(pos:Pos) (pins:List (Addr×Obj)) (s:Shared) (Z:St) (H:Hp) (Q:List V->Hp->Prop),Inv X pins Z H s->t Z H Q->wpAny (model X.prog X.w) X.A (spliced (backTo pos (starEach es X.env))) (AP X pins Z Q) X.xe s
def PS(X:Cx)(st:Stmt)(t:TS):Prop :=
 ∀(pins:List (Addr×Obj)) (s:Shared) (Z:St) (H:Hp) (D:Ends),Inv X pins Z H s->t D Z H->wpAny (model X.prog X.w) X.A (exec st X.env) (SP X pins D) X.xe s
def hJ(X:Cx)(st:List Stmt)(t:TS):Prop :=
 ∀(pins:List (Addr×Obj)) (s:Shared) (Z:St) (H:Hp) (D:Ends),Inv X pins Z H s->t D Z H->wpAny (model X.prog X.w) X.A (execs st X.env) (SP X pins D) X.xe s
theorem bS{α:Type}{t:Sem α}{Q Q':α->Shared->Prop}{M:Model}{A:Around}{E:Value->Shared->Prop}{s:Shared}(h:wpAny M A t Q E s)(hQ:∀a s,Q a s->Q' a s):wpAny M A t Q' E s:=bg h hQ λ_ _ x=>x
section
variable{X:Cx}
theorem bin{a b:Expr}{ta tb:TE}(ha:PE X a ta)(hb:PE X b tb){pins:List (Addr×Obj)}{s:Shared}{Z:St}{H:Hp}{R:V->V->Hp->Prop}(I:Inv X pins Z H s)(h:ta Z H λx H1=>tb Z H1 λy H2=>R x y H2){α:Type}{Q:α->Shared->Prop}{f:Value->Value->Sem α}(hf:∀v u s2 x y H2,Inv X pins Z H2 s2->RelV x v->RelV y u->R x y H2->wpAny (model X.prog X.w) X.A (f v u) Q X.xe s2) :
  wpAny (model X.prog X.w) X.A (eval a X.env) (λv bD=>wpAny (model X.prog X.w) X.A (eval b X.env) (λu eT=>wpAny (model X.prog X.w) X.A (f v u) Q X.xe eT) X.xe bD) X.xe s:=by
 refine bS (ha pins s Z H _ I h) λv s1 aX=>?_;obtain⟨x,H1,I1,r1,q1⟩:=aX;refine bS (hb pins s1 Z H1 _ I1 q1) λu s2 aX=>?_;obtain⟨y,H2,I2,r2,q2⟩:=aX;exact hf v u s2 x y H2 I2 r1 r2 q2
def JS(i:Nat):TE:=λZ H Q=>∃v,Z[i]?=some (some v)/\Q v H
def tC(v:V):TE:=λ_ H Q=>Q v H
theorem yq{i:Nat}{x:Str}{pos:Pos}(hN:X.N[i]?=some x)(hv:sV X.env.scope x)(hd:(x==("__debug__":Str))=false:=by decide)(kq:(x==("__classdict__":Str))=false:=by decide):PE X (.Name x pos) (JS i):=by
 intro pins s Z H Q I h;obtain⟨v,e,h⟩:=h;obtain⟨m,hn,hl⟩:=I.loc;obtain⟨u,r,l⟩:=hl i x v hN e hv;have fin:EP X pins Z Q u s:=⟨v,H,I,r,h⟩
 rcases l with⟨hk,hm⟩|⟨hk,c,hc,jV⟩
 ·exact wpAny_Name (wpAny_loadName_local I.ok.kind hk hn hm fin) hd
 ·rcases hk with hk|hk
  ·exact wpAny_Name (wpAny_loadName_cell I.ok.kind hk hc jV fin) hd
  ·exact wpAny_Name (wpAny_loadName_free I.ok.kind hk hc jV fin kq) hd
theorem EJ{i j pos}:PE X (.Constant (.int i) j pos) (tC (.int i)):=λ_ _ _ H _ I h=>wpAny_Constant_int ⟨.int i,H,I.tok _,⟨_,rfl⟩,h⟩
theorem KW{b j pos}:PE X (.Constant (.bool b) j pos) (tC (.bl b)):=λ_ _ _ H _ I h=>Constant_bool ⟨.bl b,H,I,rfl,h⟩
theorem MX{j pos}:PE X (.Constant .none j pos) (tC .bw):=λ_ _ _ H _ I h=>Constant_none ⟨.bw,H,I,rfl,h⟩
theorem EL{x j pos}:PE X (.Constant (.str x) j pos) (tC (.str x)):=λ_ _ _ H _ I h=>Calls.Constant_str ⟨.str x,H,I.tok _,⟨_,rfl⟩,h⟩
def Gl(X:Cx)(x:Str):Prop:=X.env.kindOf x=some .globalImplicit
theorem H9{E:Value->Shared->Prop}{pins:List (Addr×Obj)}{s:Shared}{Z:St}{H:Hp}{x:Str}{u:Value}{pos:Pos}{Q:Value->Shared->Prop}(I:Inv X pins Z H s)(hg:Gl X x)(hm:X.mg x=some u)(h:Q u s)(hd:(x==("__debug__":Str))=false:=by decide):wpAny (model X.prog X.w) X.A (eval (.Name x pos) X.env) Q E s :=
 vq I.ok.kind hg (Calls.loadGlobal_global (by rw[I.ok.glob];exact I.mod.glob.keeps I.bk) hm h) hd
theorem E8{E:Value->Shared->Prop}{pins:List (Addr×Obj)}{s:Shared}{Z:St}{H:Hp}{x:Str}{u:Value}{pos:Pos}{Q:Value->Shared->Prop}(I:Inv X pins Z H s)(hg:Gl X x)(hm:X.mg x=none)(hv:bootBuiltins x=some u)(h:Q u s)(hn:x≠"__name__":=by decide)(hd:(x==("__debug__":Str))=false:=by decide):wpAny (model X.prog X.w) X.A (eval (.Name x pos) X.env) Q E s:=by
 obtain⟨mb,h1,h2⟩:=I.mod.blt;exact vq I.ok.kind hg (Calls.loadGlobal_builtin (by rw[I.ok.glob];exact I.mod.glob.keeps I.bk) hm (by rw[I.ok.blt];exact h1.keeps I.bk) ((h2 x hn).trans hv) h) hd
theorem Q1{x:Str}{v:V}{u:Value}{pos:Pos}(hg:Gl X x)(hm:X.mg x=some u)(r:RelV v u)(hd:(x==("__debug__":Str))=false:=by decide):PE X (.Name x pos) (tC v) :=
 λ_ _ _ H _ I h=>H9 I hg hm ⟨v,H,I,r,h⟩ hd
theorem Vz{x:Str}{v:V}{u:Value}{pos:Pos}(hg:Gl X x)(hm:X.mg x=none)(hv:bootBuiltins x=some u)(r:RelV v u)(hn:x≠"__name__":=by decide)(hd:(x==("__debug__":Str))=false:=by decide):PE X (.Name x pos) (tC v) :=
 λ_ _ _ H _ I h=>E8 I hg hm hv ⟨v,H,I,r,h⟩ hn hd
def GZ(ta tb:TE)(k:Int->Int->Hp->Prop):St->Hp->Prop:=λZ H=>ta Z H λx H1=>tb Z H1 λy H2=>∃i j,x=.int i/\y=.int j/\k i j H2
def JQ(ta tb:TE):TE:=λZ H Q=>GZ ta tb (λi j H2=>Q (.int (i-j)) H2) Z H
variable{a b:Expr}{ta tb:TE}{pos:Pos}
theorem M'(ha:PE X a ta)(hb:PE X b tb):PE X (.BinOp a .Sub b pos) (JQ ta tb):=by
 intro pins s Z H Q I h;refine wpAny_BinOp (bin ha hb I h λv u s2 x y H2 I2 rx ry q=>?_);obtain⟨i,j,rfl,rfl,q⟩:=q;obtain⟨t,rfl⟩:=rx;obtain⟨t',rfl⟩:=ry;exact sub_int ⟨.int _,H2,I2.tok _,⟨_,rfl⟩,q⟩
variable{tA tK:TT}{rest:List Expr}
def Qy(t u:TT):TT:=λZ H Q=>t Z H λc H1=>if c=true then u Z H1 Q else Q false H1
def GW(t u:TT):TT:=λZ H Q=>t Z H λc H1=>if c=true then Q true H1 else u Z H1 Q
def JK(t:TT):TT:=λZ H Q=>t Z H λc H1=>Q (!c) H1
theorem VP(ha:PT X a tA):PW X (.BoolOp .And [a] pos) tA:=by
 intro wh pins s Z H Q I h;refine isTrue_and (bS (ha pins s Z H Q I h) λc s1 e=>?_);cases c with
 |true=>exact isTrue_and_nil e
 |false=>exact e
theorem Np(ha:PT X a tA):PW X (.BoolOp .Or [a] pos) tA:=by
 intro wh pins s Z H Q I h;refine isTrue_or (bS (ha pins s Z H Q I h) λc s1 e=>?_);cases c with
 |false=>exact isTrue_or_nil e
 |true=>exact e
theorem Nn(ha:PT X a tA)(hb:PW X (.BoolOp .And (b::rest) pos) tK):PW X (.BoolOp .And (a::b::rest) pos) (Qy tA tK):=by
 intro wh pins s Z H Q I h;refine isTrue_and (bS (ha pins s Z H _ I h) λc s1 ⟨H1,I1,q1⟩=>?_);cases c with
 |true=>exact hb wh pins s1 Z H1 Q I1 q1
 |false=>exact⟨H1,I1,q1⟩
theorem Le(ha:PT X a tA)(hb:PW X (.BoolOp .Or (b::rest) pos) tK):PW X (.BoolOp .Or (a::b::rest) pos) (GW tA tK):=by
 intro wh pins s Z H Q I h;refine isTrue_or (bS (ha pins s Z H _ I h) λc s1 ⟨H1,I1,q1⟩=>?_);cases c with
 |true=>exact⟨H1,I1,q1⟩
 |false=>exact hb wh pins s1 Z H1 Q I1 q1
theorem Nm(ha:PT X a tA):PT X (.UnaryOp .Not a pos) (JK tA):=by
 intro pins s Z H Q I h;exact isTrue_not (ha pins s Z H (λc H1=>Q (!c) H1) I h)
def Lx(ta tb:TE):TE:=λZ H Q=>ta Z H λx H1=>∃c,x=.bl c/\if c=true then tb Z H1 Q else Q (.bl false) H1
def JL(ta tb:TE):TE:=λZ H Q=>ta Z H λx H1=>∃c,x=.bl c/\if c=true then Q (.bl true) H1 else tb Z H1 Q
def LC(ta:TE):TE:=λZ H Q=>ta Z H λx H1=>∃c,x=.bl c/\Q (.bl (!c)) H1
theorem MZ{op}{t:TE}(h:PE X a t):PE X (.BoolOp op [a] pos) t:=λpins s Z H Q I hw=>BoolOp_one (h pins s Z H Q I hw)
theorem MU(ha:PE X a ta)(hb:PE X (.BoolOp .And (b::rest) pos) tb):PE X (.BoolOp .And (a::b::rest) pos) (Lx ta tb):=by
 intro pins s Z H Q I h;refine BoolOp_and (bS (ha pins s Z H _ I h) λv s1 aX=>?_);obtain⟨x,H1,I1,r1,q1⟩:=aX;obtain⟨c,rfl,q1⟩:=q1;cases r1;refine bU ?_;cases c with
 |true=>exact hb pins s1 Z H1 Q I1 q1
 |false=>exact⟨.bl false,H1,I1,rfl,q1⟩
theorem La(ha:PE X a ta)(hb:PE X (.BoolOp .Or (b::rest) pos) tb):PE X (.BoolOp .Or (a::b::rest) pos) (JL ta tb):=by
 intro pins s Z H Q I h;refine BoolOp_or (bS (ha pins s Z H _ I h) λv s1 aX=>?_);obtain⟨x,H1,I1,r1,q1⟩:=aX;obtain⟨c,rfl,q1⟩:=q1;cases r1;refine bU ?_;cases c with
 |false=>exact hb pins s1 Z H1 Q I1 q1
 |true=>exact⟨.bl true,H1,I1,rfl,q1⟩
theorem MY(ha:PE X a ta):PE X (.UnaryOp .Not a pos) (LC ta):=by
 intro pins s Z H Q I h;refine UnaryOp_ (bS (ha pins s Z H _ I h) λv s1 aX=>?_);obtain⟨x,H1,I1,r1,q1⟩:=aX;obtain⟨c,rfl,q1⟩:=q1;cases r1;exact not_of (bU ⟨.bl (!c),H1,I1,rfl,q1⟩)
def GX(t:TT)(ta tb:TE):TE:=λZ H Q=>t Z H λc H1=>if c=true then ta Z H1 Q else tb Z H1 Q
theorem Sn{c:Expr}(hc:PT X c tA)(ha:PE X a ta)(hb:PE X b tb):PE X (.IfExp c a b pos) (GX tA ta tb):=by
 intro pins s Z H Q I h;refine wpAny_IfExp (bS (hc pins s Z H _ I h) λd s1 ⟨H1,I1,q1⟩=>?_);cases d with
 |true=>exact ha pins s1 Z H1 Q I1 q1
 |false=>exact hb pins s1 Z H1 Q I1 q1
end
def eQ(K:PySem.W.Frag)(H:Hp)(a:Addr)(xs:List V):Prop :=
 Rd H a (.lst xs) \/
  ∃(o:Obj) (aQ:Array Value) (n:Nat),K.lookup a=some o/\o.cls=.type "list"/\o.dict=none/\o.data=.seq aQ n/\aQ.size<=sizeLine/\Vals xs aQ.toList
def gC(K:PySem.W.Frag)(H:Hp)(a:Addr)(xs:List V):Prop :=
 Rd H a (.tup xs) \/
  ∃(o:Obj) (aQ:Array Value) (n:Nat),K.lookup a=some o/\o.cls=.type "tuple"/\o.data=.seq aQ n/\aQ.size<=sizeLine/\Vals xs aQ.toList
def Pc:Value->Option V
 |.none=>some .bw
 |.bool b=>some (.bl b)
 |.int i _=>some (.int i)
 |.str x _=>some (.str x)
 |.bytes b _=>some (.jW b)
 |.float b _=>some (.oJ b)
 |.ref a=>some (.ref a)
 |.type n=>some (.ty n)
 |_=>none
theorem RelV.abs{x:V}{u:Value}(r:RelV x u):Pc u=some x:=by
 cases x with
 |bw=>cases r;rfl
 |bl _=>cases r;rfl
 |int _=>obtain⟨t,rfl⟩:=r;rfl
 |str _=>obtain⟨t,rfl⟩:=r;rfl
 |jW _=>obtain⟨t,rfl⟩:=r;rfl
 |oJ _=>obtain⟨t,rfl⟩:=r;rfl
 |ref _=>cases r;rfl
 |ty _=>cases r;rfl
theorem RelV.inj{x y:V}{u:Value}(r:RelV x u)(q:RelV y u):x=y:=aF (r.abs.symm.trans q.abs)
theorem Vals.inj{xs ys:List V}{us:List Value}(h:Vals xs us)(h':Vals ys us):xs=ys:=by
 induction h generalizing ys with
 |nil=>cases h';rfl
 |cons r t ih =>
  cases h' with
  |cons r' t'=>rw[r.inj r',ih t']
section
variable{X:Cx}{pins:List (Addr×Obj)}{Z:St}{H:Hp}{s:Shared}{a:Addr}{xs ys:List V}
theorem eQ.of{K:PySem.W.Frag}(h:H a=some (.lst xs)):eQ K H a xs:=.inl (.inl h)
theorem Inv.list(I:Inv X pins Z H s)(h:eQ X.K H a xs):∃aQ:List Value,Vals xs aQ/\PlainL s.heap a aQ.toArray/\xs.length<=sizeLine:=by
 rcases h with h|⟨o,aQ,n,hk,hc,hd,hs,hz,r⟩
 ·obtain⟨z,aQ,n,r,e⟩:=h.ok I.bx;exact⟨aQ,r,⟨_,n,e,rfl,rfl,rfl⟩,z⟩
 ·refine⟨aQ.toList,r,⟨o,n,I.fu a o hk,hc,hd,by simpa using hs⟩,?_⟩;have e:=r.length;simp only[Array.length_toList] at e;omega
theorem Inv.tuple(I:Inv X pins Z H s)(h:gC X.K H a xs):∃aQ:List Value,Vals xs aQ/\IsTup s.heap a aQ.toArray/\xs.length<=sizeLine:=by
 rcases h with h|⟨o,aQ,n,hk,hc,hs,hz,r⟩
 ·obtain⟨z,aQ,r,p⟩:=h.ok I.bx;exact⟨aQ,r,p.tup,z⟩
 ·refine⟨aQ.toList,r,⟨o,I.fu a o hk,hc,n,by simpa using hs⟩,?_⟩;have e:=r.length;simp only[Array.length_toList] at e;omega
theorem Inv.yZ(I:Inv X pins Z H s)(h:eQ X.K H a xs)(h':eQ X.K H a ys):xs=ys:=by
 obtain⟨aQ,r,⟨o,n,e,_,_,d⟩,_⟩:=I.list h;obtain⟨its',r',⟨o',n',e',_,_,d'⟩,_⟩:=I.list h';rw[e] at e';cases e';rw[d] at d';injection d' with d1 _;have:aQ=its':=by simpa using fT Array.toList d1
 subst this;exact r.inj r'
theorem Inv.UB(I:Inv X pins Z H s)(h:gC X.K H a xs)(h':gC X.K H a ys):xs=ys:=by
 obtain⟨aQ,r,⟨o,e,_,n,d⟩,_⟩:=I.tuple h;obtain⟨its',r',⟨o',e',_,n',d'⟩,_⟩:=I.tuple h';rw[e] at e';cases e';rw[d] at d';injection d' with d1 _;have:aQ=its':=by simpa using fT Array.toList d1
 subst this;exact r.inj r'
end
noncomputable abbrev Cx.R9(X:Cx)(E:Value->Shared->Prop):Cx:={ X with xe:=E }
theorem Cx.Ok.R9{X:Cx}(ok:X.Ok)(E:Value->Shared->Prop):(X.R9 E).Ok :=
 ⟨ok.mod,ok.kind,ok.glob,ok.blt,ok.above,ok.inj,ok.has,ok.nF,ok.hd,ok.frames,ok.nS,ok.rZ,ok.bs,ok.lP,ok.jh,ok.jM,ok.C2,ok.lY⟩
theorem Cx.Ok.yA{X:Cx}{E:Value->Shared->Prop}(ok:(X.R9 E).Ok):X.Ok :=
 ⟨ok.mod,ok.kind,ok.glob,ok.blt,ok.above,ok.inj,ok.has,ok.nF,ok.hd,ok.frames,ok.nS,ok.rZ,ok.bs,ok.lP,ok.jh,ok.jM,ok.C2,ok.lY⟩
section
variable{X:Cx}{pins:List (Addr×Obj)}{Z:St}{H:Hp}{s:Shared}{E:Value->Shared->Prop}
theorem Inv.R9(I:Inv X pins Z H s)(E:Value->Shared->Prop):Inv (X.R9 E) pins Z H s:=⟨I.ok.R9 E,I.os,I.bare,I.base,I.loc,I.cell,I.free,I.dA,I.pin,I.bx,I.len⟩
theorem Inv.yA(I:Inv (X.R9 E) pins Z H s):Inv X pins Z H s:=⟨I.ok.yA,I.os,I.bare,I.base,I.loc,I.cell,I.free,I.dA,I.pin,I.bx,I.len⟩
end
section
variable{X:Cx}{st:Stmt}{rest:List Stmt}{t u:TS}{e:Expr}{te:TE}{pos:Pos}
def Gi:TS:=λD Z H=>D.nx Z H
def JP(t u:TS):TS:=λD Z H=>t { D with nx:=u D } Z H
theorem VM:hJ X [] Gi:=λ_ _ Z H _ I h=>iR ⟨Z,H,I,h⟩
theorem Sy(h1:PS X st t)(h2:hJ X rest u):hJ X (st::rest) (JP t u):=by
 intro pins s Z H D I h;refine wpAny_execs_cons (bS (h1 pins s Z H { D with nx:=u D } I h) λf s1 q=>?_);cases f with
 |next =>
  obtain⟨bI,H',I',q⟩:=q;exact h2 pins s1 bI H' D I' q
 |ret v=>exact q
 |brk=>exact q
 |cont=>exact q
theorem VJ:PS X (.Pass pos) Gi:=λ_ _ Z H _ I h=>wpAny_Pass ⟨Z,H,I,h⟩
theorem Inv.quiet{pins:List (Addr×Obj)}{Z:St}{H:Hp}{s:Shared}(I:Inv X pins Z H s):interactive X.env=false:=by simp[interactive,I.ok.kind]
def LB(te:TE):TS:=λD Z H=>te Z H λ_ H1=>D.nx Z H1
theorem VI(he:PE X e te)(hs:swapsWith e none pos.line X.env=pure false:=by rfl):PS X (.Expr e pos) (LB te):=by
 intro pins s Z H D I h;exact wpAny_Expr_any (bS (he pins s Z H _ I h) λv s1 ⟨x,H1,I1,r1,q1⟩=>⟨Z,H1,I1,q1⟩) I.quiet hs
def JO(te:TE):TS:=λD Z H=>te Z H D.rt
theorem Nk(he:PE X e te):PS X (.Return (some e) pos) (JO te):=by
 intro pins s Z H D I h;exact wpAny_Return_some (bS (he pins s Z H _ I h) λv s1 ⟨x,H1,I1,r1,q1⟩=>⟨x,Z,H1,I1,r1,q1⟩)
def LH:TS:=λD _ H=>D.rt .bw H
theorem VL:PS X (.Return none pos) LH:=λ_ _ Z H _ I h=>wpAny_Return_none ⟨.bw,Z,H,I,rfl,h⟩
def JI(c:TT)(t u:TS):TS:=λD Z H=>c Z H λb H1=>if b=true then t D Z H1 else u D Z H1
theorem Ld{c:Expr}{a b:List Stmt}{tc:TT}(hc:PT X c tc)(ha:hJ X a t)(hb:hJ X b u):PS X (.If c a b pos) (JI tc t u):=by
 intro pins s Z H D I h;refine wpAny_If (bS (hc pins s Z H _ I h) λd s1 ⟨H1,I1,q1⟩=>?_);cases d with
 |true=>exact ha pins s1 Z H1 D I1 q1
 |false=>exact hb pins s1 Z H1 D I1 q1
end
noncomputable abbrev TG:=V->St->Hp->(St->Hp->Prop)->Prop
noncomputable abbrev nG:=List V->St->Hp->(St->Hp->Prop)->Prop
def PG(X:Cx)(target:Expr)(t:TG):Prop :=
 ∀(pins:List (Addr×Obj)) (s:Shared) (Z:St) (H:Hp) (v:V) (u:Value) (Q:St->Hp->Prop),Inv X pins Z H s->RelV v u->t v Z H Q ->
  wpAny (model X.prog X.w) X.A (assign target X.env u) (λ_ s'=>∃bI H',Inv X pins bI H' s'/\Q bI H') X.xe s
def sZ(X:Cx)(ts:List Expr)(t:nG):Prop :=
 ∀(pins:List (Addr×Obj)) (s:Shared) (Z:St) (H:Hp) (vs:List V) (us:List Value) (Q:St->Hp->Prop),Inv X pins Z H s->Vals vs us->t vs Z H Q ->
  wpAny (model X.prog X.w) X.A (assignInOrder ((assignEach ts X.env).map (·.2)) us) (λ_ s'=>∃bI H',Inv X pins bI H' s'/\Q bI H') X.xe s
noncomputable abbrev zV:=V->V->V->Hp->(Hp->Prop)->Prop
def zU(X:Cx)(t:zV):Prop :=
 ∀(pins:List (Addr×Obj)) (s:Shared) (Z:St) (H:Hp) (o i v:V) (ov iv u:Value) (Q:Hp->Prop),Inv X pins Z H s->RelV o ov->RelV i iv->RelV v u->t o i v H Q ->
  wpAny (model X.prog X.w) X.A (setItem ov iv u) (λ_ s'=>∃H',Inv X pins Z H' s'/\Q H') X.xe s
noncomputable abbrev Ac:=V->V->Hp->VK->Prop
def Gn(X:Cx)(op:Operator)(t:Ac):Prop :=
 ∀(pins:List (Addr×Obj)) (s:Shared) (Z:St) (H:Hp) (x y:V) (v u:Value) (Q:VK),Inv X pins Z H s->RelV x v->RelV y u->t x y H Q ->
  wpAny (model X.prog X.w) X.A (inplaceOp op v u) (EP X pins Z Q) X.xe s
section
variable{X:Cx}{pos:Pos}
def pV(i:Nat):TG:=λv Z H Q=>Q (Z.set i (some v)) H
theorem Fu{i:Nat}{x:Str}(hN:X.N.Nodup)(hi:X.N[i]?=some x)(hx:Loc X.env.scope x)(hf:X.fn x=true\/X.env.scope.names.lookup x=some .local:=by first|exact .inl rfl|exact .inr rfl|assumption):PG X (.Name x pos) (pV i):=by
 intro pins s Z H v u Q I r h;exact wpAny_assign_Name (L9 I hN hi hx r (λs' I'=>⟨_,H,I',h⟩) hf)
def Cq:nG:=λvs Z H Q=>vs=[]/\Q Z H
def FX(t:TG)(u:nG):nG:=λvs Z H Q=>∃v r,vs=v::r/\t v Z H λbI H'=>u r bI H' Q
theorem VF:sZ X [] Cq:=by
 intro pins s Z H vs us Q I r h;obtain⟨e,h⟩:=h;subst e;cases r;exact assignInOrder_nil ⟨Z,H,I,h⟩
theorem Sr{e:Expr}{es:List Expr}{t:TG}{u:nG}(h1:PG X e t)(h2:sZ X es u)(hs:(assignEach (e::es) X.env).map (·.2)=assign e X.env::(assignEach es X.env).map (·.2):=by rfl):sZ X (e::es) (FX t u):=by
 intro pins s Z H vs us Q I r h;obtain⟨v,vr,e1,h⟩:=h;subst e1;cases r with
 |cons r rr =>
  rw[hs];refine tB (bS (h1 pins s Z H _ _ _ I r h) λ_ s1 aX=>?_);obtain⟨gh,H1,I1,q1⟩:=aX;exact h2 pins s1 gh H1 _ _ Q I1 rr q1
def Px(K:PySem.W.Frag)(n:Nat)(t:nG):TG:=λv Z H Q=>∃a xs,v=.ref a/\gC K H a xs/\xs.length=n/\t xs Z H Q
theorem Nc{es:List Expr}{k:Nat}{t:nG}{n:Nat}(hc:X.calm=true)(h:sZ X es t)(hn:(assignEach es X.env).length=n:=by rfl)(cR:(assignEach es X.env).findIdx? (·.1)=none:=by rfl):PG X (.Tuple es k pos) (Px X.K n t):=by
 intro pins s Z H v u Q I r hw;obtain⟨a,xs,e1,hq,hl,hw⟩:=hw;subst e1;cases r;obtain⟨aQ,rv,ht,hz⟩:=I.tuple hq;refine assign_Tuple_tuple (I.ok.hd hc) ht (by simp[hn,<- hl,rv.length]) cR λh' hx=>?_;have I1:Inv X pins Z H { s with heap:=h' }:=I.kept (t':=s.toks) λb o e=>hx b o (aK (au e)) e;exact h pins _ Z H xs _ Q I1 (by simpa using rv) hw
def Pw(to ti:TE)(t:zV):TG:=λv Z H Q=>to Z H λo H1=>ti Z H1 λi H2=>t o i v H2 λH3=>Q Z H3
theorem Nb{o i:Expr}{to ti:TE}{t:zV}(ho:PE X o to)(hi:PE X i ti)(hs:zU X t)(ha:∀ v,assign (.Subscript o i pos) X.env v=(do
   let ov <- holding [v] (eval o X.env)
   let iv <- holding [v,ov] (eval i X.env)
   standAt pos
   holding [v,ov,iv] (setItem ov iv v)
   release [v,ov,iv] []):=by intro _;rfl):PG X (.Subscript o i pos) (Pw to ti t):=by
 intro pins s Z H v u Q I r h;rw[ha];refine aa (bT (bS (ho pins s Z H _ I h) λov s1 aX=>?_));obtain⟨x,H1,I1,r1,q1⟩:=aX;refine aa (bT (bS (hi pins s1 Z H1 _ I1 q1) λiv s2 aX=>?_));obtain⟨y,H2,I2,r2,q2⟩:=aX;refine aa (dq (aa (bT (bS (hs pins s2 Z H2 x y v ov iv u _ I2 r1 r2 r q2) λ_ s3 ⟨H3,I3,q3⟩=>?_))));exact wpAny_release ⟨Z,H3,I3,q3⟩
def sH(te:TE)(g:TG):TS:=λD Z H=>te Z H λx H1=>g x Z H1 D.nx
theorem EM{tg e:Expr}{te:TE}{g:TG}(he:PE X e te)(hg:PG X tg g)(hs:swapsWithSole [tg] e pos.line X.env=pure false:=by rfl)(hw:swappedStores [tg] e X.env=pure none:=by rfl)(h1:(assignEach [tg] X.env).map (·.2)=[assign tg X.env]:=by rfl):PS X (.Assign [tg] e pos) (sH te g):=by
 intro pins s Z H D I h;refine wpAny_Assign_stores (bS (he pins s Z H _ I h) λv s1 aX=>?_) hs hw;obtain⟨x,H1,I1,r1,q1⟩:=aX;rw[h1];exact bS (hg pins s1 Z H1 x v _ I1 r1 q1) λ_ s2 q=>q
theorem EN{i:Nat}{x:Str}{e:Expr}{te:TE}{pos':Pos}(hN:X.N.Nodup)(hi:X.N[i]?=some x)(hx:Loc X.env.scope x)(he:PE X e te)(hs:swapsWith e (some (.Name x pos')) pos.line X.env=pure false:=by rfl)(hf:X.fn x=true\/X.env.scope.names.lookup x=some .local:=by first|exact .inl rfl|exact .inr rfl|assumption) :
  PS X (.Assign [.Name x pos'] e pos) (sH te (pV i)):=by
 intro pins s Z H D I h;refine wpAny_Assign_Name (bS (he pins s Z H _ I h) λv s1 aX=>?_) hs;obtain⟨y,H1,I1,r1,q1⟩:=aX;exact L9 I1 hN hi hx r1 (λs2 I2=>⟨_,H1,I2,q1⟩) hf
def JN(i j:Nat)(ta:TA):TS:=λD Z H=>ta Z H λvs H1=>∃v w,vs=[v,w]/\D.nx ((Z.set i (some v)).set j (some w)) H1
theorem Nj{i j:Nat}{x y:Str}{a b:Expr}{ta:TA}{px py pt:Pos}{kt k2 mU}(hc:X.calm=true)(hN:X.N.Nodup)(hi:X.N[i]?=some x)(hj:X.N[j]?=some y)(ir:i≠j)(hx:X.env.scope.names.lookup x=some .local)(hy:X.env.scope.names.lookup y=some .local)(ha:PA X [a,b] ta)(hw:swappedStores [.Tuple [.Name x px,.Name y py] kt pt] (.Tuple [a,b] k2 mU) X.env=pure (some [x,y]))(hs:swapsWithSole [.Tuple [.Name x px,.Name y py] kt pt] (.Tuple [a,b] k2 mU) pos.line X.env=pure false:=by rfl) :
  PS X (.Assign [.Tuple [.Name x px,.Name y py] kt pt] (.Tuple [a,b] k2 mU) pos) (JN i j ta):=by
 intro pins s Z H D I h;rw[exec_Assign_arm];refine aa (dq ?_);rw[hs];refine aa (ah ?_);rw[aE (by decide)];refine aa (Tuple_ (bS (ha _ pins s Z H _ I h) λus s1 aX=>?_));obtain⟨vs,H1,I1,r1,q1⟩:=aX;obtain⟨v,w,e1,q1⟩:=q1;subst e1;obtain⟨u1,u2,rfl,rv,eZ⟩:∃u1 u2,us=[u1,u2]/\RelV v u1/\RelV w u2:=by
  cases r1 with
  |cons p q =>
   cases q with
   |cons p' q' =>
    cases q';exact⟨_,_,rfl,p,p'⟩
 refine bO ?_ (by show 2<=sizeLine;decide);have I2:Inv X pins Z H1 { s1 with heap:=s1.heap.push { cls:=.type "tuple",data:=.seq [u1,u2].toArray } }:=I1.kept (t':=s1.toks) λb o e=>ai _ e;rw[hw];refine aa (ah ?_);show wpAny (model X.prog X.w) X.A (do rule "assign.swapped-stores";let items <- unpackItems (.ref s1.heap.objs.size) 2 none;assignInOrder [λv=>bindName X.env y v,λv=>bindName X.env x v] items.reverse;pure Flow.next) _ _ _;refine aa (fb (aa (unpackItems_tuple (items:=#[u1,u2]) (I.ok.hd hc) (IsTup.new s1.heap _) λh' qT=>?_)));have I3:=I2.kept (h':=h') (t':=s1.toks) λb o e=>qT b o (aK (au e)) e;show wpAny _ _ (assignInOrder [λv=>bindName X.env y v,λv=>bindName X.env x v] [u2,u1] >>= λ_=>pure Flow.next) _ _ _;refine aa (tB (wpAny_bindName (L9 I3 hN hj (.inl hy) eZ (λs2 I4=>?_) (.inr hy))));refine tB (wpAny_bindName (L9 I4 hN hi (.inl hx) rv (λs3 I5=>assignInOrder_nil (ah ?_)) (.inr hx)));rw[List.set_comm _ _ (bR ir)] at I5;exact⟨_,H1,I5,q1⟩
def Qz(i:Nat)(te:TE)(ti:Ac):TS:=λD Z H=>∃x,Z[i]?=some (some x)/\te Z H λy H1=>ti x y H1 λz H2=>D.nx (Z.set i (some z)) H2
theorem Ng{i:Nat}{x:Str}{e:Expr}{te:TE}{op:Operator}{ti:Ac}{pos':Pos}(hN:X.N.Nodup)(hi:X.N[i]?=some x)(hx:Loc X.env.scope x)(he:PE X e te)(ho:Gn X op ti)(hf:X.fn x=true\/X.env.scope.names.lookup x=some .local:=by first|exact .inl rfl|exact .inr rfl|assumption) :
  PS X (.AugAssign (.Name x pos') op e pos) (Qz i te ti):=by
 intro pins s Z H D I h;obtain⟨v,e1,h⟩:=h;obtain⟨m,hn,hl⟩:=I.loc;have pb:sV X.env.scope x:=by rcases hx with k|k;exact .inl k;exact .inr (.inl k)
 obtain⟨u,r,l⟩:=hl i x v hi e1 pb;refine wpAny_AugAssign_Name ?_;have go:wpAny (model X.prog X.w) X.A (eval e X.env) (λw eT=>wpAny (model X.prog X.w) X.A (inplaceOp op u w) (λr dS=>wpAny (model X.prog X.w) X.A (storeName X.env x r) (λ_=>SP X pins D .next) X.xe dS) X.xe eT) X.xe s:=by
  refine bS (he pins s Z H _ I h) λw s1 aX=>?_;obtain⟨y,H1,I1,r1,q1⟩:=aX;refine bS (ho pins s1 Z H1 v y u w _ I1 r r1 q1) λz s2 aX=>?_;obtain⟨zv,H2,I2,r2,q2⟩:=aX;exact L9 I2 hN hi hx r2 (λs3 I3=>⟨_,H2,I3,q2⟩) hf
 rcases l with⟨hk,hm⟩|⟨hk,c,hc,jV⟩
 ·exact wpAny_loadName_local I.ok.kind hk hn hm go
 ·rcases hk with hk|hk
  ·exact wpAny_loadName_cell I.ok.kind hk hc jV go
  ·rcases hx with k|k
   ·have:X.env.scope.names.lookup x=some .free:=hk;rw[k] at this;cases this
   ·have:X.env.scope.names.lookup x=some .free:=hk;rw[k] at this;cases this
end
section
variable{X:Cx}{pos:Pos}
def NZ(c:TT)(tb:TS):TS:=λD Z H=>∃W:Nat->St->Hp->Prop,(∃m,W m Z H)/\∀m Z H,W m Z H ->
 c Z H λb H1=>if b=true then ∃N:St->Hp->Prop,(∀bI H',N bI H'->∃m',m'<m/\W m' bI H')/\tb { D with nx:=N,ct:=N,bk:=D.nx } Z H1 else D.nx Z H1
theorem Sx{c:Expr}{body:List Stmt}{tc:TT}{tb:TS}(hp:PassesOwn (model X.prog X.w) X.A X.env X.xe)(hc:PT X c tc)(hb:hJ X body tb):PS X (.While c body [] pos) (NZ tc tb):=by
 intro pins s Z H D I h;obtain⟨W,⟨m0,w0⟩,turn⟩:=h;refine wpAny_While (codeAny_whileLoop (λn s'=>∃bI H',Inv X pins bI H' s'/\W n bI H') ?_ m0 ⟨Z,H,I,w0⟩);rintro n s1 ⟨gh,H1,I1,w1⟩;refine dh hp (bS (hc pins s1 gh H1 _ I1 (turn n gh H1 w1)) λb s2 ⟨H2,I2,q2⟩=>?_);cases b with
 |true =>
  obtain⟨N,hN,q2⟩:=q2;rw[aG rfl];refine dh hp (bS (hb pins s2 gh H2 _ I2 q2) λf s3 q3=>?_);cases f with
  |next =>
   obtain⟨gx,H3,I3,n3⟩:=q3;obtain⟨m',hm,w3⟩:=hN gx H3 n3;exact⟨m',hm,gx,H3,I3,w3⟩
  |cont =>
   obtain⟨gx,H3,I3,n3⟩:=q3;obtain⟨m',hm,w3⟩:=hN gx H3 n3;exact⟨m',hm,gx,H3,I3,w3⟩
  |brk=>exact q3
  |ret v=>exact q3
 |false =>
  rw[aE cV];exact iR ⟨gh,H2,I2,q2⟩
end
structure It where
 go:Nat->Hp->Prop
 nP:Nat->Hp->V->Hp->Prop
 stop:Nat->Hp->Prop
def w5(X:Cx)(pins:List (Addr×Obj))(H:Hp)(b:Addr):Prop :=
 H b=none/\b≠X.env.locals/\b∉X.fs/\(b∈X.ex\/X.cE.heap.objs.size<=b)/\(∀x c,X.env.cells.lookup x=some c->c≠b)/\∀p∈X.pn++pins,p.1≠b
theorem Inv.Y7{X:Cx}{pins:List (Addr×Obj)}{Z:St}{H H':Hp}{s:Shared}{b:Addr}(I:Inv X pins Z H s)(hb:s.heap.objs.size<=b)(hn:H' b=none):w5 X pins H' b:=by
 refine⟨hn,bH (ao I.lt hb),I.sG hb,.inr (aO I.sz hb),λx c e z=>?_,λp hp z=>?_⟩
 ·obtain⟨v,q⟩:=I.cell x c e;exact absurd (ao q.lt (by rw[z];exact hb)) (ba _)
 ·exact absurd (ao (au (I.pin p hp).1) (by rw[z];exact hb)) (ba _)
structure Turn(P:Program)(w:World)(K:PySem.W.Frag)(tg:Expr)(J:It)(fp:List Addr)(it:Addr)(tn:Nat->Heap->Prop):Prop where
 mem:it∈fp
 obj:∀i h,tn i h->∀b∈fp,∃o,h.get? b=some o/\∀v,o.data≠.cell v
 keep:∀i h h',tn i h->(∀b∈fp,∀o,h.get? b=some o->h'.get? b=some o)->tn i h'
 item:∀(X:Cx),X.prog=P->X.w=w->X.K=K->X.calm=true->∀(i:Nat) (pins:List (Addr×Obj)) (s:Shared) (Z:St) (H:Hp) (E:Value->Shared->Prop),Inv X pins Z H s->(∀b∈fp,w5 X pins H b)->tn i s.heap->J.go i H ->
  wpAny (model P w) X.A (pyNext (.ref it)) (λr s1=>∃ u,r=some u /\
   wpAny (model P w) X.A (letOwnedTupleGo tg (.ref it) u) (λ_ s2=>∃ x H',Inv X pins Z H' s2/\RelV x u/\J.nP i H x H'/\tn (i + 1) s2.heap/\∀ b ∈ fp,H' b=none) E s1) E s
 done:∀(X:Cx),X.prog=P->X.w=w->X.K=K->X.calm=true->∀(i:Nat) (pins:List (Addr×Obj)) (s:Shared) (Z:St) (H:Hp) (E:Value->Shared->Prop),Inv X pins Z H s->(∀b∈fp,w5 X pins H b)->tn i s.heap->J.stop i H ->
  wpAny (model P w) X.A (pyNext (.ref it)) (λr s1=>r=none/\Inv X pins Z H s1) E s
 self:∀(A:Around) (i:Nat) (s:Shared) (Q:Value->Shared->Prop) (E:Value->Shared->Prop),tn i s.heap->Q (.ref it) s->wpAny (model P w) A (pyIter (.ref it)) Q E s
noncomputable abbrev TI:=St->Hp->(It->Hp->Prop)->Prop
def Gp(X:Cx)(pins:List (Addr×Obj))(Z:St)(tg:Expr)(R:It->Hp->Prop)(qS:Value)(s2:Shared):Prop :=
 ∃(it:Addr) (fp:List Addr) (tn:Nat->Heap->Prop) (J:It) (H':Hp),qS=.ref it/\Inv X pins Z H' s2/\Turn X.prog X.w X.K tg J fp it tn/\tn 0 s2.heap/\(∀b∈fp,w5 X pins H' b)/\R J H'
def PI(X:Cx)(tg iter:Expr)(wi:TI):Prop :=
 ∀(pins:List (Addr×Obj)) (s:Shared) (Z:St) (H:Hp) (R:It->Hp->Prop),Inv X pins Z H s->wi Z H R ->
  wpAny (model X.prog X.w) X.A (eval iter X.env) (λv s1=>wpAny (model X.prog X.w) X.A (pyIter v) (Gp X pins Z tg R) X.xe s1) X.xe s
theorem uz{M:Model}{A:Around}{E:Value->Shared->Prop}{s:Shared}{tg:Expr}{it:Addr}{u:Value}{o:Obj}{n:String}{vs:Array Value}{Q:Unit->Shared->Prop}(ho:s.heap.get? it=some o)(hc:o.cls=.type n)(hd:o.data=.fields vs)(hn:["enumerate","zip","dict_itemiterator","dict_reverseitemiterator","odict_iterator","itertools.zip_longest","itertools.pairwise"].contains n=false)(hQ:Q () s):wpAny M A (letOwnedTupleGo tg (.ref it) u) Q E s:=by
  unfold letOwnedTupleGo;cases tg<;>first
    |exact ah hQ
    | (cases u <;> first
        |exact ah hQ
        | (refine aa (wpAny_load ho ?_)
           rw[hc,hd];show wpAny M A (if(["enumerate","zip","dict_itemiterator","dict_reverseitemiterator","odict_iterator","itertools.zip_longest","itertools.pairwise"].contains n&&vs[0]?==some (rawInt _))=true then _ else _) Q E s;rw[aE (by intro h;rw[hn,mq] at h;cases h)];exact ah hQ))
def Af(K:PySem.W.Frag)(a:Addr):It :=
 ⟨λi H=>∃xs x,eQ K H a xs/\xs[i]?=some x,λi H x H'=>H'=H/\∀xs,eQ K H a xs->xs[i]?=some x,λi H=>∃xs,eQ K H a xs/\xs.length<=i⟩
def Ae(K:PySem.W.Frag)(a:Addr):It :=
 ⟨λi H=>∃xs x,gC K H a xs/\xs[i]?=some x,λi H x H'=>H'=H/\∀xs,gC K H a xs->xs[i]?=some x,λi H=>∃xs,gC K H a xs/\xs.length<=i⟩
def tj(lo:Int)(n:Nat):It:=⟨λi _=>i<n,λi H x H'=>H'=H/\x=.int (lo+i),λi _=>n<=i⟩
theorem UG{P:Program}{w:World}{K:PySem.W.Frag}{tg:Expr}(a it:Addr):Turn P w K tg (Af K a) [it] it (λi h=>h.IsListIter it a i) where
 mem:=by simp
 obj:=λi h st b hb=>by
  have e:b=it:=by simpa using hb
  subst e;obtain⟨o,e,c,d⟩:=st;exact⟨o,e,λv z=>by rw[d] at z;cases z⟩
 keep:=λi h h' st k=>st.at λo e=>k it (by simp) o e
 item:=by
  intro X hP hw hK hc i pins s Z H E I hf st hg;subst hP hw hK;obtain⟨xs,x,hq,hx⟩:=hg;obtain⟨aQ,rv,p,hz⟩:=I.list hq;obtain⟨u,hu,ru⟩:=rv.get hx;obtain⟨f0,f1,f2,f3,f4,f5⟩:=hf it (by simp);refine wpAny_pyNext_list_item st p.isList (x:=u) (by simpa using hu) λh' kl sb=>?_;have I1:Inv X pins Z H { s with heap:=h' }:=I.turned (t':=s.toks) (λb o hb e=>(sb.2 b hb).trans e) f0 f1 f3 f4 f5;obtain⟨o,e,c,d⟩:=id kl;exact⟨u,rfl,uz (s:={ s with heap:=h' }) e c d (by decide) ⟨x,H,I1,ru,⟨rfl,λys hy=>by rw[I.yZ hy hq];exact hx⟩,kl,λb hb=>(hf b hb).1⟩⟩
 done:=by
  intro X hP hw hK hc i pins s Z H E I hf st hg;subst hP hw hK;obtain⟨xs,hq,hx⟩:=hg;obtain⟨aQ,rv,p,hz⟩:=I.list hq;obtain⟨f0,f1,f2,f3,f4,f5⟩:=hf it (by simp);have hl:=rv.length;exact wpAny_pyNext_list_end (I.ok.hd hc) st p.isList (by simp;omega) λh' eb=>⟨rfl,I.turned (t':=s.toks) (λb o hb e=>eb b o hb e) f0 f1 f3 f4 f5⟩
 self:=λ_ _ _ _ _ st h=>wpAny_pyIter_listiter st h
theorem Vq{P:Program}{w:World}{K:PySem.W.Frag}{tg:Expr}(a it:Addr):Turn P w K tg (Ae K a) [it] it (λi h=>h.IsTupleIter it a i) where
 mem:=by simp
 obj:=λi h st b hb=>by
  have e:b=it:=by simpa using hb
  subst e;obtain⟨o,e,c,d⟩:=st;exact⟨o,e,λv z=>by rw[d] at z;cases z⟩
 keep:=λi h h' st k=>st.at λo e=>k it (by simp) o e
 item:=by
  intro X hP hw hK hc i pins s Z H E I hf st hg;subst hP hw hK;obtain⟨xs,x,hq,hx⟩:=hg;obtain⟨aQ,rv,p,hz⟩:=I.tuple hq;obtain⟨u,hu,ru⟩:=rv.get hx;obtain⟨f0,f1,f2,f3,f4,f5⟩:=hf it (by simp);refine wpAny_pyNext_tuple_item st (show s.heap.IsTuple a aQ.toArray from p) (x:=u) (by simpa using hu) λh' kl sb=>?_;have I1:Inv X pins Z H { s with heap:=h' }:=I.turned (t':=s.toks) (λb o hb e=>(sb.2 b hb).trans e) f0 f1 f3 f4 f5;obtain⟨o,e,c,d⟩:=id kl;exact⟨u,rfl,uz (s:={ s with heap:=h' }) e c d (by decide) ⟨x,H,I1,ru,⟨rfl,λys hy=>by rw[I.UB hy hq];exact hx⟩,kl,λb hb=>(hf b hb).1⟩⟩
 done:=by
  intro X hP hw hK hc i pins s Z H E I hf st hg;subst hP hw hK;obtain⟨xs,hq,hx⟩:=hg;obtain⟨aQ,rv,p,hz⟩:=I.tuple hq;obtain⟨f0,f1,f2,f3,f4,f5⟩:=hf it (by simp);have hl:=rv.length;exact wpAny_pyNext_tuple_end (I.ok.hd hc) st (show s.heap.IsTuple a aQ.toArray from p) (by simp;omega) λh' eb=>⟨rfl,I.turned (t':=s.toks) (λb o hb e=>eb b o hb e) f0 f1 f3 f4 f5⟩
 self:=λ_ _ _ _ _ st h=>wpAny_pyIter_tupleiter st h
theorem Vo{P:Program}{w:World}{K:PySem.W.Frag}{tg:Expr}(it:Addr)(lo:Int)(n:Nat):Turn P w K tg (tj lo n) [it] it (λi h=>IsRangeIter h it (lo+(i:Nat)*1) ((n:Int)-(i:Nat)) 1) where
 mem:=by simp
 obj:=λi h st b hb=>by
  have e:b=it:=by simpa using hb
  subst e;exact ⟨_,st,λv z=>by
   have z':Data.fields _=Data.cell v:=z;cases z'⟩
 keep:=λi h h' st k=>k it (by simp) _ st
 item:=by
  intro X hP hw hK hc i pins s Z H E I hf st hg;subst hP hw hK;obtain⟨f0,f1,f2,f3,f4,f5⟩:=hf it (by simp);have W:=Walks.range (prog:=X.prog) (w:=X.w) (I.ok.hd hc) it lo 1 n;refine W.item i s _ _ hg st λv h' tk hv kl kk=>?_;obtain⟨t,rfl⟩:=hv;have I1:Inv X pins Z H { s with heap:=h',toks:=tk }:=I.turned (λb o hb e=>kk b o (by simpa using hb) e) f0 f1 f3 f4 f5;refine⟨_,rfl,uz (s:={ s with heap:=h',toks:=tk }) (n:="range_iterator") kl rfl rfl (by decide) ⟨.int (lo+i),H,I1,⟨t,?_⟩,⟨rfl,rfl⟩,kl,λb hb=>(hf b hb).1⟩⟩;rw[Int.mul_one]
 done:=by
  intro X hP hw hK hc i pins s Z H E I hf st hg;subst hP hw hK;obtain⟨f0,f1,f2,f3,f4,f5⟩:=hf it (by simp);exact wpAny_pyNext_range_end (I.ok.hd hc) st (by have:n<=i:=hg;omega) λh' eb=>⟨rfl,I.turned (t':=s.toks) (λb o hb e=>eb b o hb e) f0 f1 f3 f4 f5⟩
 self:=λ_ _ _ _ _ st h=>wpAny_pyIter_rangeiter st h
section
variable{X:Cx}{tg:Expr}
theorem CY{pins:List (Addr×Obj)}{Z:St}{H:Hp}{s:Shared}{R:It->Hp->Prop}{E:Value->Shared->Prop}{lo hi:Int}{t u v:Tok}{tk:Nat}(I:Inv X pins Z H s)(h1:-(2 ^ 62)<=lo)(h2:lo<2 ^ 62)(h3:-(2 ^ 62)<=hi)(h4:hi<2 ^ 62)(q:R (tj lo (hi-lo).toNat) H):wpAny (model X.prog X.w) X.A (pyIter (.ref s.heap.objs.size)) (Gp X pins Z tg R) E { s with heap:=s.heap.push { cls:=.type "range",data:=.fields #[.int lo t,.int hi u,.int 1 v] },toks:=tk }:=by
 refine wpAny_pyIter_range (IsRange.new ..) (small_one h1 h2 h3 h4) ?_;have I1:Inv X pins Z H { s with heap:=s.heap.push { cls:=.type "range",data:=.fields #[.int lo t,.int hi u,.int 1 v] },toks:=tk }:=I.kept λb o e=>ai _ e;refine ⟨(s.heap.push { cls:=.type "range",data:=.fields #[.int lo t,.int hi u,.int 1 v] }).objs.size,[(s.heap.push { cls:=.type "range",data:=.fields #[.int lo t,.int hi u,.int 1 v] }).objs.size],_,_,H,rfl,
  I1.kept (t':=tk) λb o e=>ai _ e,Vo _ lo (hi - lo).toNat,?_,λb hb=>?_,q⟩
 ·have e1:lo+((0:Nat):Int)*1=lo:=by simp
  have e2:(((hi-lo).toNat:Nat):Int)-((0:Nat):Int)=Builtin.Range.rangeSize lo hi 1:=by rw[rangeSize_one];split<;>omega
  show IsRangeIter _ _ (lo+((0:Nat):Int)*1) ((((hi-lo).toNat:Nat):Int)-((0:Nat):Int)) 1;rw[e1,e2];exact ax _ rfl
 ·have e:b=(s.heap.push { cls:=.type "range",data:=.fields #[.int lo t,.int hi u,.int 1 v] }).objs.size:=by simpa using hb
  subst e;exact I1.Y7 (ak _) (I1.bx.fresh (ak _))
def Kn(ta:TA):TI:=λZ H R=>ta Z H λvs H1=>∃j:Int,vs=[.int j]/\-(2 ^ 62)<=j/\j<2 ^ 62/\R (tj 0 j.toNat) H1
def Ko(ta:TA):TI:=λZ H R=>ta Z H λvs H1=>∃i j:Int,vs=[.int i,.int j]/\(-(2 ^ 62)<=i/\i<2 ^ 62/\-(2 ^ 62)<=j/\j<2 ^ 62)/\R (tj i (j-i).toNat) H1
theorem Up{a:Expr}{ta:TA}{p pos:Pos}(hg:Gl X "range")(hm:X.mg "range"=none)(ha:PA X [a] ta)(hs:starEach [a] X.env=[(false,eval a X.env)]:=by rfl):PI X tg (.Call (.Name "range" p) [a] [] pos) (Kn ta):=by
 intro pins s Z H R I h;refine Call_ (E8 I hg hm boot_range (bu (bS (ha pos pins s Z H _ I h) λus s1 aX=>?_) hs rfl));obtain⟨vs,H1,I1,r1,q1⟩:=aX;obtain⟨j,e,q1,q2,q⟩:=q1;subst e;cases r1 with
 |cons r rr =>
  cases rr;obtain⟨t,rfl⟩:=r;exact call_range_1 (CY I1 (by omega) (by omega) q1 q2 (by simpa using q))
theorem Uq{a b:Expr}{ta:TA}{p pos:Pos}(hg:Gl X "range")(hm:X.mg "range"=none)(ha:PA X [a,b] ta)(hs:starEach [a,b] X.env=[(false,eval a X.env),(false,eval b X.env)]:=by rfl)(gA:starEach [b] X.env=[(false,eval b X.env)]:=by rfl) :
  PI X tg (.Call (.Name "range" p) [a,b] [] pos) (Ko ta):=by
 intro pins s Z H R I h;refine Call_ (E8 I hg hm boot_range (bu (bS (ha pos pins s Z H _ I h) λus s1 aX=>?_) (by rw[hs,gA]) (by rw[gA];rfl)));obtain⟨vs,H1,I1,r1,q1⟩:=aX;obtain⟨i,j,e,⟨q1,q2,q3,q4⟩,q⟩:=q1;subst e;cases r1 with
 |cons r rr =>
  cases rr with
  |cons r' rr =>
   cases rr;obtain⟨t,rfl⟩:=r;obtain⟨t',rfl⟩:=r';exact call_range_2 (CY I1 q1 q2 q3 q4 q)
def QC(wi:TI)(g:TG)(tb:TS):TS:=λD Z H=>wi Z H λJ H1=>∃W:Nat->Nat->St->Hp->Prop,(∃m,W 0 m Z H1)/\∀i m Z H,W i m Z H ->
 (J.stop i H/\D.nx Z H)\/(J.go i H/\∃N:St->Hp->Prop,(∀bI H',N bI H'->∃m',m'<m/\W (i+1) m' bI H')/\∀x H',J.nP i H x H'->g x Z H' λbY H2=>tb { D with nx:=N,ct:=N,bk:=D.nx } bY H2)
def P9(fp:List Addr)(h:Heap):List (Addr×Obj):=fp.filterMap λb=>(h.get? b).map λo=>(b,o)
theorem K8{fp:List Addr}{h:Heap}{b:Addr}{o:Obj}(hb:b∈fp)(e:h.get? b=some o):(b,o)∈P9 fp h:=jc.mpr ⟨b,hb,by rw[e];rfl⟩
theorem Ud{fp:List Addr}{h:Heap}{p:Addr×Obj}(hp:p∈P9 fp h):p.1∈fp/\h.get? p.1=some p.2:=by
 obtain⟨b,hb,e⟩:=jc.mp hp;cases q:h.get? b with
 |none=>rw[q] at e;cases e
 |some o =>
  rw[q] at e;have e':(b,o)=p:=aF e;subst e';exact⟨hb,q⟩
theorem Inv.pinned{pins:List (Addr×Obj)}{Z:St}{H:Hp}{s:Shared}{fp:List Addr}(I:Inv X pins Z H s)(hf:∀b∈fp,w5 X pins H b)(ho:∀b∈fp,∃o,s.heap.get? b=some o/\∀v,o.data≠.cell v):Inv X (pins++P9 fp s.heap) Z H s :=
 I.C5 λp hp=>(bt.mp hp).elim (λz=>I.pin p (bf _ z)) λz=>by
  obtain⟨hb,e⟩:=Ud z;obtain⟨f0,f1,f2,_⟩:=hf p.1 hb;obtain⟨o,e',d⟩:=ho p.1 hb;rw[e] at e';cases e';exact⟨e,f0,f1,f2,d⟩
theorem Inv.zg{pins pl:List (Addr×Obj)}{Z:St}{H:Hp}{s:Shared}(I:Inv X (pins++pl) Z H s):Inv X pins Z H s:=I.C5 λp hp=>I.pin p (bf _ (dk _ hp))
theorem Ni{iter:Expr}{body:List Stmt}{wi:TI}{g:TG}{tb:TS}{pos:Pos}(hp:PassesOwn (model X.prog X.w) X.A X.env X.xe)(hc:X.calm=true)(hi:PI X tg iter wi)(hg:PG X tg g)(hb:hJ X body tb)(hs:∀x,foldedSetIterable iter X.env x=pure x:=by intro _;rfl):PS X (.For tg iter body [] pos) (QC wi g tb):=by
 intro pins s Z H D I h;refine wpAny_For (bS (hi pins s Z H _ I h) λv s1 h1=>bS h1 λqS s2 h2=>?_) hs;obtain⟨it,fp,tn,J,H2,e,I2,T,jE,f2,W,⟨m0,w0⟩,turn⟩:=h2;subst e;have nT:∀{H':Hp},(∀b∈fp,H' b=none)->∀b∈fp,w5 X pins H' b:=λhn b hb=>⟨hn b hb,(f2 b hb).2⟩
 refine codeAny_forLoop_any (λn s'=>∃i bI H',Inv X pins bI H' s'/\tn i s'.heap/\(∀b∈fp,H' b=none)/\W i n bI H') ?_ m0 ⟨0,Z,H2,I2,jE,λb hb=>(f2 b hb).1,w0⟩;rintro n s3 ⟨i,gx,H3,I3,mR,nA,w3⟩;rcases turn i n gx H3 w3 with⟨stop,qn⟩|⟨go,N,hN,step⟩
 ·refine dh hp (bS (T.done X rfl rfl rfl hc i pins s3 gx H3 X.xe I3 (nT nA) mR stop) λr s4 ⟨hr,I4⟩=>?_);subst hr;exact iR ⟨gx,H3,I4,qn⟩
 ·refine dh hp (bS (T.item X rfl rfl rfl hc i pins s3 gx H3 X.xe I3 (nT nA) mR go) λr s4 ⟨u,hr,h4⟩=>?_);subst hr;refine dh hp (bS h4 λ_ s5 aX=>?_);obtain⟨x,H5,I5,r5,y5,kZ,rY⟩:=aX;have tm:=I5.pinned (nT rY) (T.obj _ _ kZ);refine dh hp (bS (hg _ s5 gx H5 x u _ tm r5 (step x H5 y5)) λ_ s6 aX=>?_);obtain⟨ke,H6,I6,q6⟩:=aX;refine dh hp (bS (hb _ s6 ke H6 _ I6 q6) λf s7 q7=>?_);have again:∀{kU:St} {H7:Hp},Inv X (pins++P9 fp s5.heap) kU H7 s7->N kU H7->∃m,m<n/\∃i bI H',Inv X pins bI H' s7/\tn i s7.heap/\(∀b∈fp,H' b=none)/\W i m bI H':=λ{kU H7} I7 n7=>by
   obtain⟨m',hm,w7⟩:=hN kU H7 n7;refine⟨m',hm,i+1,kU,H7,I7.zg,T.keep _ _ _ kZ λb hb o e=>(I7.pin (b,o) (bf _ (bf _ (K8 hb e)))).1,λb hb=>?_,w7⟩;obtain⟨o,e,d⟩:=T.obj _ _ kZ b hb;exact(I7.pin (b,o) (bf _ (bf _ (K8 hb e)))).2.1
  cases f with
  |next=>obtain⟨kU,H7,I7,n7⟩:=q7;exact again I7 n7
  |cont=>obtain⟨kU,H7,I7,n7⟩:=q7;exact again I7 n7
  |brk=>obtain⟨kU,H7,I7,q7⟩:=q7;exact⟨kU,H7,I7.zg,q7⟩
  |ret v=>obtain⟨x7,kU,H7,I7,r7,q7⟩:=q7;exact⟨x7,kU,H7,I7.zg,r7,q7⟩
end
noncomputable abbrev R2:=V->V->Hp->VK->Prop
def eI(X:Cx)(f:Value->Value->Sem Value)(r:R2):Prop :=
 ∀(pins:List (Addr×Obj)) (s:Shared) (Z:St) (H:Hp) (x y:V) (v u:Value) (Q:VK),Inv X pins Z H s->RelV x v->RelV y u->r x y H Q ->
  wpAny (model X.prog X.w) X.A (f v u) (EP X pins Z Q) X.xe s
def vj(X:Cx)(f:Value->Sem Value)(r:V->Hp->VK->Prop):Prop :=
 ∀(pins:List (Addr×Obj)) (s:Shared) (Z:St) (H:Hp) (x:V) (v:Value) (Q:VK),Inv X pins Z H s->RelV x v->r x H Q ->
  wpAny (model X.prog X.w) X.A (f v) (EP X pins Z Q) X.xe s
def j9(X:Cx)(f:Value)(r:List V->Hp->VK->Prop):Prop :=
 ∀(pins:List (Addr×Obj)) (s:Shared) (Z:St) (H:Hp) (xs:List V) (us:List Value) (Q:VK),Inv X pins Z H s->Vals xs us->r xs H Q ->
  wpAny (model X.prog X.w) X.A (call f us) (EP X pins Z Q) X.xe s
def Pb(X:Cx)(r:V->Hp->(Bool->Hp->Prop)->Prop):Prop :=
 ∀(pins:List (Addr×Obj)) (s:Shared) (Z:St) (H:Hp) (x:V) (v:Value) (Q:Bool->Hp->Prop),Inv X pins Z H s->RelV x v->r x H Q ->
  wpAny (model X.prog X.w) X.A (truthy v) (TP X pins Z Q) X.xe s
def ph(r:R2)(ta tb:TE):TE:=λZ H Q=>ta Z H λx H1=>tb Z H1 λy H2=>r x y H2 Q
def GU(r:V->Hp->VK->Prop)(ta:TE):TE:=λZ H Q=>ta Z H λx H1=>r x H1 Q
def rI(C:Int->Int->Prop)(g:Int->Int->V):R2:=λx y H Q=>∃i j,x=.int i/\y=.int j/\C i j/\Q (g i j) H
def kG(g:Int->Int->V):R2:=λx y H Q=>∃i j,x=.int i/\y=.int j/\Q (g i j) H
def rU(g:Int->V):V->Hp->VK->Prop:=λx H Q=>∃i,x=.int i/\Q (g i) H
section
variable{X:Cx}{a b c:Expr}{ta tb tc:TE}{pos:Pos}
theorem zY(ha:PE X a ta)(hb:PE X b tb){pins:List (Addr×Obj)}{s:Shared}{Z:St}{H:Hp}{R:V->V->Hp->Prop}(I:Inv X pins Z H s)(h:ta Z H λx H1=>tb Z H1 λy H2=>R x y H2){Q:Value->Shared->Prop}{f:Value->Value->Sem Value}(hf:∀v u s2 x y H2,Inv X pins Z H2 s2->RelV x v->RelV y u->R x y H2->wpAny (model X.prog X.w) X.A (f v u) Q X.xe s2) :
  wpAny (model X.prog X.w) X.A (eval a X.env) (λv bD=>wpAny (model X.prog X.w) X.A (eval b X.env) (λu eT=>wpAny (model X.prog X.w) X.A (f v u) Q X.xe eT) X.xe bD) X.xe s:=by
 refine bS (ha pins s Z H _ I h) λv s1 aX=>?_;obtain⟨x,H1,I1,r1,q1⟩:=aX;refine bS (hb pins s1 Z H1 _ I1 q1) λu s2 aX=>?_;obtain⟨y,H2,I2,r2,q2⟩:=aX;exact hf v u s2 x y H2 I2 r1 r2 q2
theorem K'{op:Operator}{r:R2}(ho:eI X (binaryOp op) r)(ha:PE X a ta)(hb:PE X b tb):PE X (.BinOp a op b pos) (ph r ta tb):=by
 intro pins s Z H Q I h;exact wpAny_BinOp (zY ha hb I h λv u s2 x y H2 I2 rx ry q=>ho pins s2 Z H2 x y v u Q I2 rx ry q)
theorem Lb{op:UnaryOp}{r:V->Hp->VK->Prop}(ho:vj X (unaryOp op) r)(ha:PE X a ta):PE X (.UnaryOp op a pos) (GU r ta):=by
 intro pins s Z H Q I h;exact UnaryOp_ (bS (ha pins s Z H _ I h) λv s1 ⟨x,H1,I1,r1,q1⟩=>ho pins s1 Z H1 x v Q I1 r1 q1)
theorem qv{f:Value->Value->Sem Value}{C:Int->Int->Prop}{g:Int->Int->Int}(rule:∀(i j:Int) (t u:Tok) (s:Shared) (Q:Value->Shared->Prop) (E:Value->Shared->Prop),C i j->Q (.int (g i j) s.toks) { s with toks:=s.toks+1 }->wpAny (model X.prog X.w) X.A (f (.int i t) (.int j u)) Q E s) :
  eI X f (rI C λi j=>.int (g i j)):=by
 intro pins s Z H x y v u Q I rx ry h;obtain⟨i,j,rfl,rfl,hc,q⟩:=h;obtain⟨t,rfl⟩:=rx;obtain⟨t',rfl⟩:=ry;exact rule i j t t' s _ _ hc ⟨.int (g i j),H,I.tok _,⟨_,rfl⟩,q⟩
theorem pQ{f:Value->Value->Sem Value}{g:Int->Int->Int}(rule:∀(i j:Int) (t u:Tok) (s:Shared) (Q:Value->Shared->Prop) (E:Value->Shared->Prop),Q (.int (g i j) s.toks) { s with toks:=s.toks+1 }->wpAny (model X.prog X.w) X.A (f (.int i t) (.int j u)) Q E s) :
  eI X f (kG λi j=>.int (g i j)):=by
 intro pins s Z H x y v u Q I rx ry h;obtain⟨i,j,rfl,rfl,q⟩:=h;obtain⟨t,rfl⟩:=rx;obtain⟨t',rfl⟩:=ry;exact rule i j t t' s _ _ ⟨.int (g i j),H,I.tok _,⟨_,rfl⟩,q⟩
theorem vf{f:Value->Value->Sem Value}{g:Int->Int->Bool}(rule:∀(i j:Int) (t u:Tok) (s:Shared) (Q:Value->Shared->Prop) (E:Value->Shared->Prop),Q (.bool (g i j)) s->wpAny (model X.prog X.w) X.A (f (.int i t) (.int j u)) Q E s) :
  eI X f (kG λi j=>.bl (g i j)):=by
 intro pins s Z H x y v u Q I rx ry h;obtain⟨i,j,rfl,rfl,q⟩:=h;obtain⟨t,rfl⟩:=rx;obtain⟨t',rfl⟩:=ry;exact rule i j t t' s _ _ ⟨.bl (g i j),H,I,rfl,q⟩
def zT(i j:Int):Prop:=0<j/\j<1073741824
def V8(i j:Int):Prop:=0<=j/\j<=1000000/\i.natAbs<2 ^ 64
def oR(i j:Int):Prop:=(-(2 ^ 64)<i/\i<2 ^ 64)\/(-(2 ^ 64)<j/\j<2 ^ 64)
theorem oR.ok{i j:Int}(h:oR i j):IntMulOk i j:=by
 rcases h with⟨h1,h2⟩|⟨h1,h2⟩
 ·exact .of_left (intBits_le_64 h1 h2)
 ·exact .of_right (intBits_le_64 h1 h2)
theorem MF:eI X (binaryOp .Add) (kG λi j=>.int (i+j)):=pQ λ_ _ _ _ _ _ _ q=>add_int q
theorem MP:eI X (binaryOp .Sub) (kG λi j=>.int (i-j)):=pQ λ_ _ _ _ _ _ _ q=>sub_int q
theorem ML:eI X (binaryOp .Mult) (rI oR λi j=>.int (i*j)):=qv λ_ _ _ _ _ _ _ hc q=>mul_int q hc.ok
theorem OX:eI X (binaryOp .FloorDiv) (rI zT λi j=>.int (i / j)):=qv λi j _ _ _ _ _ hc q=>by
 have h1:(0:Int)<j:=hc.1;have h2:j<1073741824:=hc.2;exact floordiv_int (by omega) (by rw[Int.fdiv_eq_ediv_of_nonneg i (by omega)];exact q) (.inl (PyProof.noPylong_small (by omega)))
theorem MK:eI X (binaryOp .Mod) (rI (λ_ j=>0<j) λi j=>.int (i % j)):=qv λi j _ _ _ _ _ hc q=>by
 have h1:(0:Int)<j:=hc;exact mod_int' (by omega) (by rw[Int.fmod_eq_emod_of_nonneg i (by omega)];exact q)
theorem MM:eI X (binaryOp .Pow) (rI V8 λi j=>.int (i ^ j.toNat)):=qv λ_ _ _ _ _ _ _ hc q=>pow_int_small hc.1 hc.2.1 hc.2.2 q
theorem MO:eI X (binaryOp .LShift) (rI V8 λi j=>.int (i*2 ^ j.toNat)):=qv λ_ _ _ _ _ _ _ hc q=>lshift_int_small hc.1 hc.2.1 hc.2.2 q
theorem MG:eI X (binaryOp .BitAnd) (kG λi j=>.int (Builtin.bitAnd i j)):=pQ λ_ _ _ _ _ _ _ q=>and_int q
theorem KS:eI X (binaryOp .BitOr) (kG λi j=>.int (Builtin.bitOr i j)):=pQ λ_ _ _ _ _ _ _ q=>or_int q
theorem OI:eI X (inplaceOp .Add) (kG λi j=>.int (i+j)):=pQ λ_ _ _ _ _ _ _ q=>iadd_int q
theorem OJ:eI X (inplaceOp .Sub) (kG λi j=>.int (i-j)):=pQ λ_ _ _ _ _ _ _ q=>isub_int q
theorem GS{f:Value->Sem Value}{g:Int->Int}(rule:∀(i:Int) (t:Tok) (s:Shared) (Q:Value->Shared->Prop) (E:Value->Shared->Prop),Q (.int (g i) s.toks) { s with toks:=s.toks+1 }->wpAny (model X.prog X.w) X.A (f (.int i t)) Q E s) :
  vj X f (rU λi=>.int (g i)):=by
 intro pins s Z H x v Q I rx h;obtain⟨i,rfl,q⟩:=h;obtain⟨t,rfl⟩:=rx;exact rule i t s _ _ ⟨.int (g i),H,I.tok _,⟨_,rfl⟩,q⟩
theorem Of:vj X (unaryOp .USub) (rU λi=>.int (-i)):=GS λ_ _ _ _ _ q=>neg_int q
end
def Cy:V->V->Bool
 |.bw,.bw=>true|.bw,.int _=>true|.int _,.bw=>true|.bw,.bl _=>true|.bl _,.bw=>true|.bw,.str _=>true|.str _,.bw=>true
 |.int _,.int _=>true|.bl _,.bl _=>true|.str _,.str _=>true|.jW _,.jW _=>true
 |.int _,.str _=>true|.str _,.int _=>true|.bl _,.str _=>true|.str _,.bl _=>true
 |_,_=>false
def Hj:R2:=λx y H Q=>Cy x y=true/\Q (.bl (decide (x=y))) H
def Hi:R2:=λx y H Q=>Cy x y=true/\Q (.bl (!decide (x=y))) H
theorem uY{i j:Int}:decide (V.int i=V.int j)=(i==j):=by
 rw[bp];simp
theorem uI{i j:Bool}:decide (V.bl i=V.bl j)=(i==j):=by
 rw[bp];simp
theorem uZ{i j:Str}:decide (V.str i=V.str j)=(i==j):=by
 rw[bp];simp
theorem Fc{i j:Array UInt8}:decide (V.jW i=V.jW j)=(i.toList==j.toList):=by
 rw[bp];cases i;cases j;simp
section
variable{X:Cx}{a b c:Expr}{ta tb tc:TE}{pos:Pos}
theorem i7{pins:List (Addr×Obj)}{Z:St}{H:Hp}{s:Shared}{Q:VK}{k k':Bool}(I:Inv X pins Z H s)(q:Q (.bl k) H)(e:k=k'):EP X pins Z Q (.bool k') s:=by
 subst e;exact⟨.bl k,H,I,rfl,q⟩
theorem zE:eI X (compareOp .Eq) Hj:=by
 intro pins s Z H x y v u Q I rx ry h;obtain⟨hs,q⟩:=h;cases x with
 |bw =>
  cases rx;cases y with
  |bw=>cases ry;exact PySem.EqNone.eq_none_none (i7 I q (by simp))
  |bl j=>cases ry;exact PySem.EqNone.eq_none_bool (i7 I q (by simp))
  |int j=>obtain⟨t',rfl⟩:=ry;exact PySem.EqNone.eq_none_int (i7 I q (by simp))
  |str j=>obtain⟨t',rfl⟩:=ry;exact PySem.EqNone.eq_none_str (i7 I q (by simp))
  |_=>exact absurd (show false=true from hs) Bool.false_ne_true
 |bl i =>
  cases rx;cases y with
  |bw=>cases ry;exact PySem.EqNone.eq_bool_none (i7 I q (by simp))
  |bl j=>cases ry;exact eq_bool (i7 I q uI)
  |str j=>obtain⟨t',rfl⟩:=ry;exact PySem.EqMixed.eq_bool_str (i7 I q (by simp))
  |_=>exact absurd (show false=true from hs) Bool.false_ne_true
 |int i =>
  obtain⟨t,rfl⟩:=rx;cases y with
  |bw=>cases ry;exact PySem.EqNone.eq_int_none (i7 I q (by simp))
  |int j=>obtain⟨t',rfl⟩:=ry;exact eq_int (i7 I q uY)
  |str j=>obtain⟨t',rfl⟩:=ry;exact PySem.EqMixed.eq_int_str (i7 I q (by simp))
  |_=>exact absurd (show false=true from hs) Bool.false_ne_true
 |str i =>
  obtain⟨t,rfl⟩:=rx;cases y with
  |bw=>cases ry;exact PySem.EqNone.eq_str_none (i7 I q (by simp))
  |bl j=>cases ry;exact PySem.EqMixed.eq_str_bool (i7 I q (by simp))
  |int j=>obtain⟨t',rfl⟩:=ry;exact PySem.EqMixed.eq_str_int (i7 I q (by simp))
  |str j=>obtain⟨t',rfl⟩:=ry;exact eq_str (i7 I q uZ)
  |_=>exact absurd (show false=true from hs) Bool.false_ne_true
 |jW i =>
  obtain⟨t,rfl⟩:=rx;cases y with
  |jW j=>obtain⟨t',rfl⟩:=ry;exact PySem.W.eq_bytes (i7 I q Fc)
  |_=>exact absurd (show false=true from hs) Bool.false_ne_true
 |_=>cases y<;>exact absurd (show false=true from hs) cV
theorem zF:eI X (compareOp .NotEq) Hi:=by
 intro pins s Z H x y v u Q I rx ry h;obtain⟨hs,q⟩:=h;cases x with
 |bw =>
  cases rx;cases y with
  |bw=>cases ry;exact PySem.EqNone.ne_none_none (i7 I q (by simp))
  |bl j=>cases ry;exact PySem.EqNone.ne_none_bool (i7 I q (by simp))
  |int j=>obtain⟨t',rfl⟩:=ry;exact PySem.EqNone.ne_none_int (i7 I q (by simp))
  |str j=>obtain⟨t',rfl⟩:=ry;exact PySem.EqNone.ne_none_str (i7 I q (by simp))
  |_=>exact absurd (show false=true from hs) Bool.false_ne_true
 |bl i =>
  cases rx;cases y with
  |bw=>cases ry;exact PySem.EqNone.ne_bool_none (i7 I q (by simp))
  |bl j=>cases ry;exact ne_bool (i7 I q (congrArg not uI))
  |str j=>obtain⟨t',rfl⟩:=ry;exact PySem.EqMixed.ne_bool_str (i7 I q (by simp))
  |_=>exact absurd (show false=true from hs) Bool.false_ne_true
 |int i =>
  obtain⟨t,rfl⟩:=rx;cases y with
  |bw=>cases ry;exact PySem.EqNone.ne_int_none (i7 I q (by simp))
  |int j=>obtain⟨t',rfl⟩:=ry;exact ne_int (i7 I q (congrArg not uY))
  |str j=>obtain⟨t',rfl⟩:=ry;exact PySem.EqMixed.ne_int_str (i7 I q (by simp))
  |_=>exact absurd (show false=true from hs) Bool.false_ne_true
 |str i =>
  obtain⟨t,rfl⟩:=rx;cases y with
  |bw=>cases ry;exact PySem.EqNone.ne_str_none (i7 I q (by simp))
  |bl j=>cases ry;exact PySem.EqMixed.ne_str_bool (i7 I q (by simp))
  |int j=>obtain⟨t',rfl⟩:=ry;exact PySem.EqMixed.ne_str_int (i7 I q (by simp))
  |str j=>obtain⟨t',rfl⟩:=ry;exact ne_str (i7 I q (congrArg not uZ))
  |_=>exact absurd (show false=true from hs) Bool.false_ne_true
 |jW i =>
  obtain⟨t,rfl⟩:=rx;cases y with
  |jW j=>obtain⟨t',rfl⟩:=ry;exact PySem.W.ne_bytes (i7 I q (congrArg not Fc))
  |_=>exact absurd (show false=true from hs) Bool.false_ne_true
 |_=>cases y<;>exact absurd (show false=true from hs) cV
theorem KR:eI X (compareOp .Lt) (kG λi j=>.bl (decide (i<j))):=vf λ_ _ _ _ _ _ _ q=>lt_int q
theorem KQ:eI X (compareOp .LtE) (kG λi j=>.bl (decide (i<=j))):=vf λ_ _ _ _ _ _ _ q=>le_int q
theorem KP:eI X (compareOp .Gt) (kG λi j=>.bl (decide (j<i))):=vf λ_ _ _ _ _ _ _ q=>gt_int q
theorem KO:eI X (compareOp .GtE) (kG λi j=>.bl (decide (j<=i))):=vf λ_ _ _ _ _ _ _ q=>ge_int q
theorem MJ:eI X (compareOp .Is) (λx y H Q=>y=.bw/\Q (.bl (decide (x=.bw))) H):=by
 intro pins s Z H x y v u Q I rx ry h;obtain⟨rfl,q⟩:=h;cases ry;refine is_none_gen (i7 I q ?_);cases x<;>first
  |(cases rx;rfl)
  |(obtain⟨t,rfl⟩:=rx;rfl)
theorem OY:eI X (compareOp .IsNot) (λx y H Q=>y=.bw/\Q (.bl (!decide (x=.bw))) H):=by
 intro pins s Z H x y v u Q I rx ry h;obtain⟨rfl,q⟩:=h;cases ry;refine isnot_none_gen (i7 I q ?_);cases x<;>first
  |(cases rx;rfl)
  |(obtain⟨t,rfl⟩:=rx;rfl)
theorem Fs{op:CmpOp}{r:R2}(ho:eI X (compareOp op) r)(ha:PE X a ta)(hb:PE X b tb)(hm:behindInMarks op b=false):PE X (.Compare a [op] [b] pos) (ph r ta tb):=by
 intro pins s Z H Q I h;exact wpAny_Compare1 (zY ha hb I h λv u s2 x y H2 I2 rx ry q=>ho pins s2 Z H2 x y v u Q I2 rx ry q) hm
def zM(t:TE):TT:=λZ H Q=>t Z H λx H'=>∃k,x=.bl k/\Q k H'
theorem Fy{op:CmpOp}{r:R2}(ho:eI X (compareOp op) r)(ha:PE X a ta)(hb:PE X b tb)(hm:behindInMarks op b=false):PT X (.Compare a [op] [b] pos) (zM (ph r ta tb)):=by
 intro pins s Z H Q I h;refine wpAny_isTrue_Compare1 (bS (ha pins s Z H _ I h) λv s1 ⟨x,H1,I1,r1,q1⟩=>bS (hb pins s1 Z H1 _ I1 q1) λu s2 ⟨y,H2,I2,r2,q2⟩ =>
  bS (ho pins s2 Z H2 x y v u _ I2 r1 r2 q2) λc s3 ⟨z,H3,I3,r3,k,e,q3⟩=>?_) hm
 subst e;cases r3;exact bU ⟨H3,I3,q3⟩
def yy(r r':R2)(ta tb tc:TE):TE:=λZ H Q=>ta Z H λx H1=>tb Z H1 λy H2=>r x y H2 λz H3=>∃k,z=.bl k /\
 (if k=true then tc Z H3 λw' H4=>r' y w' H4 Q else Q (.bl false) H3)
theorem Sk{op gq:CmpOp}{r r':R2}(ho:eI X (compareOp op) r)(lE:eI X (compareOp gq) r')(ha:PE X a ta)(hb:PE X b tb)(hc:PE X c tc)(hm:lastMarks [op,gq] [b,c]=false:=by with_unfolding_all rfl):PE X (.Compare a [op,gq] [b,c] pos) (yy r r' ta tb tc):=by
 intro pins s Z H Q I h;refine Compare_chain (bS (ha pins s Z H _ I h) λv s1 ⟨x,H1,I1,r1,q1⟩=>chain_link (bS (hb pins s1 Z H1 _ I1 q1) λu s2 ⟨y,H2,I2,r2,q2⟩ =>
  bS (ho pins s2 Z H2 x y v u _ I2 r1 r2 q2) λd s3 ⟨z,H3,I3,r3,k,e,q3⟩=>?_)) hm
 subst e;cases r3;refine bU ?_;cases k with
 |false=>exact ite_ff ⟨.bl false,H3,I3,rfl,q3⟩
 |true=>exact ite_tt (chain_last (bS (hc pins s3 Z H3 _ I3 q3) λw' s4 ⟨z',H4,I4,r4,q4⟩=>lE pins s4 Z H4 y z' u w' Q I4 r2 r4 q4))
theorem Sz{op gq:CmpOp}{r r':R2}(ho:eI X (compareOp op) r)(lE:eI X (compareOp gq) r')(ha:PE X a ta)(hb:PE X b tb)(hc:PE X c tc)(hm:lastMarks [op,gq] [b,c]=false:=by with_unfolding_all rfl):PT X (.Compare a [op,gq] [b,c] pos) (zM (yy r r' ta tb tc)):=by
 intro pins s Z H Q I h;refine isTrue_chain (bS (ha pins s Z H _ I h) λv s1 ⟨x,H1,I1,r1,q1⟩=>test_link (bS (hb pins s1 Z H1 _ I1 q1) λu s2 ⟨y,H2,I2,r2,q2⟩ =>
  bS (ho pins s2 Z H2 x y v u _ I2 r1 r2 q2) λd s3 ⟨z,H3,I3,r3,k,e,q3⟩=>?_)) hm
 subst e;cases r3;refine bU ?_;cases k with
 |false =>
  obtain⟨k',e',q'⟩:=q3;cases e';exact ite_ff ⟨H3,I3,q'⟩
 |true =>
  refine ite_tt (test_last (bS (hc pins s3 Z H3 _ I3 q3) λw' s4 ⟨z',H4,I4,r4,q4⟩=>bS (lE pins s4 Z H4 y z' u w' _ I4 r2 r4 q4) λd' s5 aX=>?_));obtain⟨z2,H5,I5,r5,k2,e2,q5⟩:=aX;subst e2;cases r5;exact bU ⟨H5,I5,q5⟩
def zW(K:PySem.W.Frag)(x:V)(H:Hp)(k:Bool):Prop :=
 match x with
 |.bw=>k=false
 |.bl b=>k=b
 |.int i=>k=(i != 0)
 |.str y=>y.length<=sizeLine/\k=((y.length:Int) != 0)
 |.jW y=>y.size<=sizeLine/\k=((y.size:Int) != 0)
 |.ref p=>(∃xs,eQ K H p xs/\k=!xs.isEmpty)\/(∃xs,gC K H p xs/\k=!xs.isEmpty)\/∃kvs,H p=some (.dK kvs)/\k=!kvs.isEmpty
 |_=>False
theorem US{κ:Type}{kvs:List (κ×V)}{vs:List (κ×Value)}(r:KV kvs vs):(!vs.isEmpty)=!kvs.isEmpty:=by
 cases r<;>rfl
theorem DY{xs:List V}{aQ:List Value}(r:Vals xs aQ):(!aQ.toArray.isEmpty)=!xs.isEmpty:=by
 cases r<;>simp
theorem M9:(sizeLine:Nat)<2 ^ 63:=by rw[jx];decide
theorem Od:Pb X (λx H Q=>∃k,zW X.K x H k/\Q k H):=by
 intro pins s Z H x v Q I rx h;obtain⟨k,e,q⟩:=h;have hl:=M9;have hs:sizeLine=16777216:=jx;cases x with
 |bw =>
  cases rx;have e':k=false:=e;subst e';exact truthy_none ⟨H,I,q⟩
 |bl b =>
  cases rx;have e':k=b:=e;subst e';exact bU ⟨H,I,q⟩
 |int i =>
  obtain⟨t,rfl⟩:=rx;have e':k=(i != 0):=e;subst e';exact PySem.P.truthy_int ⟨H,I,q⟩
 |str y =>
  obtain⟨t,rfl⟩:=rx;obtain⟨hy,e'⟩:y.length<=sizeLine/\k=((y.length:Int) != 0):=e;subst e';exact PySem.P.truthy_str (by omega) ⟨H,I.tok _,q⟩
 |jW y =>
  obtain⟨t,rfl⟩:=rx;obtain⟨hy,e'⟩:y.size<=sizeLine/\k=((y.size:Int) != 0):=e;subst e';exact PySem.W.truthy_bytes (by omega) ⟨H,I.tok _,q⟩
 |ref p =>
  cases rx;have e':(∃xs,eQ X.K H p xs/\k=!xs.isEmpty)\/(∃xs,gC X.K H p xs/\k=!xs.isEmpty)\/∃kvs,H p=some (.dK kvs)/\k=!kvs.isEmpty:=e;rcases e' with⟨xs,hx,e'⟩|⟨xs,hx,e'⟩|⟨kvs,hx,e'⟩
  ·subst e';obtain⟨aQ,r,pl,hz⟩:=I.list hx;have hlen:=r.length;exact wpAny_truthy_list pl.isList (by simp only[List.size_toArray];omega) ⟨H,I.tok _,by rw[DY r];exact q⟩
  ·subst e';obtain⟨aQ,r,pl,hz⟩:=I.tuple hx;have hlen:=r.length;exact truthy_tuple pl (by simp only[List.size_toArray];omega) ⟨H,I.tok _,by rw[DY r];exact q⟩
  ·subst e';obtain⟨hz,hS,vs,r,m⟩:kvs.length<=sizeLine/\(p==sysModules)=false/\∃vs,KV kvs vs/\s.heap.DictOf (l6 X.prog X.w) p vs:=I.bx p _ hx;have hlen:kvs.length=vs.length:=kB r;exact wpAny_truthy_dict hS m (by omega) ⟨H,I.tok _,by rw[US r];exact q⟩
 |_=>exact(show False from e).elim
theorem SA(ha:PE X a ta)(he:∀whole,isTrue a X.env whole=(do let v <- whole;standAt a.pos;holding [v] (truthy v))) :
  PT X a (λZ H Q=>ta Z H λx H'=>∃k,zW X.K x H' k/\Q k H'):=by
 intro pins s Z H Q I h;exact isTrue_plain (bS (ha pins s Z H _ I h) λv s1 ⟨x,H1,I1,r1,q1⟩=>Od pins s1 Z H1 x v Q I1 r1 q1) (he _)
theorem Ve:eI X (binaryOp .Add) (λx y H Q=>∃i j,x=.str i/\y=.str j/\i.length+j.length<=sizeLine/\Q (.str (i++j)) H):=by
 intro pins s Z H x y v u Q I rx ry h;obtain⟨i,j,rfl,rfl,hz,q⟩:=h;obtain⟨t,rfl⟩:=rx;obtain⟨t',rfl⟩:=ry;exact add_str (λt' tk=>⟨.str (i++j),H,I.tok _,⟨_,rfl⟩,q⟩) hz
theorem vals1{x:V}{us:List Value}(r:Vals [x] us):∃u,us=[u]/\RelV x u:=by
 cases r with
 |cons r1 r2=>cases r2;exact⟨_,rfl,r1⟩
theorem vals2{x y:V}{us:List Value}(r:Vals [x,y] us):∃u w',us=[u,w']/\RelV x u/\RelV y w':=by
 cases r with
 |cons r1 r2 =>
  cases r2 with
  |cons r3 r4=>cases r4;exact⟨_,_,rfl,r1,r3⟩
theorem Tq(hc:X.calm=true):j9 X (.builtin "max") (λxs H Q=>∃i j,xs=[.int i,.int j]/\Q (.int (if j>i then j else i)) H):=by
 intro pins s Z H xs us Q I r h;obtain⟨i,j,rfl,q⟩:=h;obtain⟨u,w',rfl,⟨t,rfl⟩,⟨t',rfl⟩⟩:=vals2 r;refine max_two_ints (I.ok.hd hc) λh' tk k=>⟨_,H,I.kept k,?_,q⟩
 by_cases hj:j>i
 ·rw[aG hj,aG hj];exact⟨_,rfl⟩
 ·rw[aE hj,aE hj];exact⟨_,rfl⟩
theorem Ts(hc:X.calm=true):j9 X (.builtin "min") (λxs H Q=>∃i j,xs=[.int i,.int j]/\Q (.int (if j<i then j else i)) H):=by
 intro pins s Z H xs us Q I r h;obtain⟨i,j,rfl,q⟩:=h;obtain⟨u,w',rfl,⟨t,rfl⟩,⟨t',rfl⟩⟩:=vals2 r;refine min_two_ints (I.ok.hd hc) λh' tk k=>⟨_,H,I.kept k,?_,q⟩
 by_cases hj:j<i
 ·rw[aG hj,aG hj];exact⟨_,rfl⟩
 ·rw[aE hj,aE hj];exact⟨_,rfl⟩
theorem Dr:j9 X (.type "int") (λxs H Q=>(∃i,xs=[.int i]/\Q (.int i) H)\/∃k,xs=[.bl k]/\Q (.int (if k then 1 else 0)) H):=by
 intro pins s Z H xs us Q I r h;rcases h with⟨i,rfl,q⟩|⟨k,rfl,q⟩
 ·obtain⟨u,rfl,t,rfl⟩:=vals1 r;exact call_int_int ⟨.int i,H,I,⟨_,rfl⟩,q⟩
 ·obtain⟨u,rfl,r1⟩:=vals1 r;cases r1;exact call_int_bool ⟨.int (if k then 1 else 0),H,I.tok _,⟨_,rfl⟩,q⟩
end
structure pL(h:Heap)(x dx C:Addr)(mA:Str->Option Value):Prop where
 obj:h.get? x=some (PySem.W.instObj C dx)
 ns:h.Ns1 dx mA
 ne:dx≠x
theorem DD{h:Heap}{dx:Addr}{mA:Str->Option Value}(n:h.Ns1 dx mA):∃od,h.get? dx=some od/\∀name,PySem.W.lookIn name od=some (mA name):=by
 obtain⟨o,es,ep,ho,hd,hk,_,hm⟩:=n;refine⟨o,ho,λname=>?_⟩;have e:=hm name;unfold nsFind findBy at e;rw[<- Array.find?_toList] at e;unfold PySem.W.lookIn;rw[hd];dsimp only;split
 ·rename_i y q;rw[q] at e;exact fT some e
 ·rename_i q;rw[q] at e;have a:es.toList.any (·.refKey)=false:=by
   rw[List.any_eq_false];intro y hy;obtain⟨z,t,jn⟩:=hk y (Array.mem_toList_iff.mp hy);simp[DictEntry.refKey,jn]
  have a':¬es.toList.any (·.refKey)=true:=by rw[a];exact cV
  rw[aE a'];exact fT some e
theorem pL.look{h:Heap}{x dx C:Addr}{mA:Str->Option Value}(I:pL h x dx C mA):∃od,PySem.W.InstAt h x (PySem.W.instObj C dx) C (some od)/\∀name,PySem.W.lookIn name od=some (mA name) :=
 let ⟨od,ho,hl⟩:=DD I.ns
 ⟨od,⟨I.obj,rfl,rfl,ho⟩,hl⟩
section
variable{prog:Program}{w:World}{A:Around}{E:Value->Shared->Prop}{s:Shared}{K:PySem.W.Frag}{x dx C f:Addr}{mA:Str->Option Value}{name:Str}{v:Value}
theorem get_map{expr:Bool}{Q:Value->Shared->Prop}(X:K.In s.heap)(I:pL s.heap x dx C mA)(hg:PySem.W.plainGet K C name=true)(hh:PySem.W.hasDictIn K C=true)(ha:PySem.W.findIn K (.ref C) name=some none)(hv:mA name=some v)(qU:PySem.W.handedIn v=true)(h:Q v { s with toks:=s.toks+1 }) :
  wpAny (model prog w) A (getAttr (.ref x) name expr) Q E s:=by
 obtain⟨od,J,hl⟩:=I.look;exact PySem.W.get_value X J (PySem.W.plainGet_of hg).1 (PySem.W.findObj_own hh ha rfl (by rw[hl,hv])) qU h
theorem Wd{ns:List Str}{Q:Unit->Shared->Prop}(X:K.In s.heap)(I:pL s.heap x dx C mA)(hs:PySem.W.findIn K (.ref C) "__setattr__"=some (some (.builtin "object.__setattr__")))(hp:PySem.W.plainOver K C=true)(ht:PySem.W.takerIn K C name=some none)(hh:PySem.W.hasDictIn K C=true)(hw:PySem.Within mA ns)(hsz:ns.length<=sizeLine)(h:∀h',pL h' x dx C (λy=>if y=name then some v else mA y)->Heap.SameBut dx s.heap h'->Q () { s with heap:=h',toks:=s.toks+2 }) :
  wpAny (model prog w) A (setAttr (.ref x) name v) Q E s:=by
 obtain⟨od,J,hl⟩:=I.look;refine PySem.W.set_plain X J hs (PySem.W.osa_open (s:={ s with toks:=s.toks+1 }) (r:=none) X J hp ht λb=>?_);obtain⟨cd,hc,wK⟩:=PySem.W.any_some hh;have hx:s.heap.get? x=some ⟨.ref C,some dx,.plain,#[]⟩:=I.obj;refine aa (ah (aa (aa (wpAny_loadPart hx (aa (PySem.W.Looks.here (s:={ s with toks:=s.toks+1 }) (PySem.W.looks_clsIn X hc) ?_))))));rw[wK];refine ah (a:=some dx) (aa (ah (aa ?_)));refine wpAny_nsSet1 (s:={ s with toks:=s.toks+1 }) I.ns λh' ng gA=>?_;obtain⟨oD,XO,XR,HK,Ik,Im⟩:=ng.count (PySem.Within.cons name v hw);refine aa (wpAny_lookBehind HK (by rw[Ik];exact pastItsLine_dict (aO Im (by rw[cK];omega))) ?_);exact ah (h _ ⟨(gA.2 _ (bR I.ne)).trans I.obj,ng,I.ne⟩ gA)
theorem RZ{R:Result->Shared->Prop}{vs:List Value}{kw:List (Str×Value)}(X:K.In s.heap)(hm:PySem.W.makesIn K C=true)(hi:PySem.W.findIn K (.ref C) "__init__"=some (some (.ref f)))(hf:PySem.W.typeIn K (.ref f)=some (.type "function"))(h:codeAny (model prog w) (A.under (.builtin "type.__call__" ⟨.ref C :: vs,kw⟩)) (.call (.ref f) ⟨.ref (s.heap.objs.size + 1) :: vs,kw⟩) (PySem.W.InitBack (s.heap.objs.size + 1) R)
   { s with heap:=(s.heap.push PySem.W.emptyDict).push (PySem.W.instObj C s.heap.objs.size) }) :
  codeAny (model prog w) A (.call (.ref C) ⟨vs,kw⟩) R s:=by
 obtain⟨hh,g,d,t,os⟩:=s;exact PySem.W.make_core (PySem.W.makes_of X hm) (PySem.W.looks_findIn X hi) (λself=>PySem.W.bind_fn X self hf) (.inl rfl) h
end
def t4(f:Str)(v:V):List (Str×V)->List (Str×V)
 |[]=>[(f,v)]
 |(g,x)::r=>if g=f then(g,v)::r else(g,x)::t4 f v r
theorem El(f g:Str)(v:V):∀fs:List (Str×V),(t4 f v fs).lookup g=if g=f then some v else fs.lookup g
 |[]=>by
  show List.lookup g [(f,v)]=_;by_cases h:g=f
  ·have hb:(g==f)=true:=fg.mpr h;simp only[List.lookup,hb,if_pos h]
  ·have hb:(g==f)=false:=cI.mpr h;simp only[List.lookup,hb,if_neg h]
 |(k,x)::r=>by
  have ih:=El f g v r;rw[show t4 f v ((k,x)::r)=(if k=f then(k,v)::r else(k,x)::t4 f v r) from rfl];by_cases hk:k=f
  ·rw[aG hk];by_cases h:g=k
   ·have hb:(g==k)=true:=fg.mpr h;simp only[List.lookup,hb,if_pos (h.trans hk)]
   ·have hb:(g==k)=false:=cI.mpr h;simp only[List.lookup,hb,if_neg (λe:g=f=>h (e.trans hk.symm))]
  ·rw[aE hk];by_cases h:g=k
   ·have hb:(g==k)=true:=fg.mpr h;simp only[List.lookup,hb,if_neg (λe:g=f=>hk (h.symm.trans e))]
   ·have hb:(g==k)=false:=cI.mpr h;simp only[List.lookup,hb];exact ih
theorem Y5(f:Str)(v:V):∀fs:List (Str×V),f∈(t4 f v fs).map (·.1)/\∀g,g∈fs.map (·.1)->g∈(t4 f v fs).map (·.1)
 |[]=>⟨by simp[t4],λg h=>by simp at h⟩
 |(k,x)::r=>by
  obtain⟨i1,i2⟩:=Y5 f v r;rw[show t4 f v ((k,x)::r)=(if k=f then(k,v)::r else(k,x)::t4 f v r) from rfl];by_cases hk:k=f
  ·rw[aG hk];subst hk;exact⟨by simp,λg h=>by simpa using h⟩
  ·rw[aE hk];refine⟨?_,λg h=>?_⟩
   ·rw[aU];exact bB _ i1
   ·rw[aU] at h ⊢;rcases az.mp h with e|e
    ·exact az.mpr (.inl e)
    ·exact bB _ (i2 g e)
theorem Ek(f:Str)(v:V):∀fs:List (Str×V),(t4 f v fs).length<=fs.length+1
 |[]=>by simp[t4]
 |(k,x)::r=>by
  have ih:=Ek f v r;rw[show t4 f v ((k,x)::r)=(if k=f then(k,v)::r else(k,x)::t4 f v r) from rfl];by_cases hk:k=f
  ·rw[aG hk,cK,cK];omega
  ·rw[aE hk,cK,cK];omega
theorem B0.some_of{v:V}{o:Option Value}(r:B0 (some v) o):∃u,o=some u/\RelV v u:=by
 cases o with
 |none=>exact(show False from r).elim
 |some u=>exact⟨u,rfl,r⟩
theorem TH{v:V}{u:Value}(r:RelV v u):PySem.W.handedIn u=true:=by
 cases v with
 |bw=>cases (show u=Value.none from r);rfl
 |bl b=>cases (show u=Value.bool b from r);rfl
 |int i=>obtain⟨t,e⟩:=(show ∃t,u=Value.int i t from r);cases e;rfl
 |str x=>obtain⟨t,e⟩:=(show ∃t,u=Value.str x t from r);cases e;rfl
 |jW b=>obtain⟨t,e⟩:=(show ∃t,u=Value.bytes b t from r);cases e;rfl
 |oJ b=>obtain⟨t,e⟩:=(show ∃t,u=Value.float b t from r);cases e;rfl
 |ref a=>cases (show u=Value.ref a from r);rfl
 |ty n=>cases (show u=Value.type n from r);rfl
section
variable{P:Program}{w:World}{H H':Hp}{h h':Heap}{a C dx:Addr}{fs nz:List (Str×V)}
theorem yQ(bx:ff P w H h)(e:H a=some (.ins C dx fs)):∃mA,pL h a dx C mA/\(∀f,B0 (fs.lookup f) (mA f))/\PySem.Within mA (fs.map (·.1))/\fs.length<=1000/\H dx=some (.own a):=by
 obtain⟨d,z,ne,ob,mA,n,r,q⟩:=(show j8 P w H h a (.ins C dx fs) from bx a _ e)
 exact⟨mA,⟨ob,n,ne⟩,r,q,z,d⟩
end
structure iY(K:PySem.W.Frag)(C:Addr):Prop where
 pg:PySem.W.plainGet K C Str.empty=true
 hd:PySem.W.hasDictIn K C=true
 po:PySem.W.plainOver K C=true
 sa:PySem.W.findIn K (.ref C) "__setattr__"=some (some (.builtin "object.__setattr__"))
theorem iY.get{K:PySem.W.Frag}{C:Addr}(c:iY K C)(f:Str):PySem.W.plainGet K C f=true:=c.pg
def u6(K:PySem.W.Frag)(C:Addr)(f:Str):Prop:=PySem.W.findIn K (.ref C) f=some none
theorem u6.LJ{K:PySem.W.Frag}{C:Addr}{f:Str}(n:u6 K C f):PySem.W.takerIn K C f=some none:=by
 unfold PySem.W.takerIn;rw[show PySem.W.findIn K (.ref C) f=some none from n]
 rfl
structure Meth(K:PySem.W.Frag)(C:Addr)(m:Str)(f:Addr):Prop where
 at_:PySem.W.findIn K (.ref C) m=some (some (.ref f))
 fn:PySem.W.isFn K (.ref f)=true
 kp:PySem.W.keepIn K (.ref f)=true
section
variable{X:Cx}{pins:List (Addr×Obj)}{Z:St}{H:Hp}{s:Shared}{a C dx:Addr}{fs:List (Str×V)}{f:Str}{v:V}{A:Around}{E:Value->Shared->Prop}
theorem UR{b:Bool}{Q:Value->Shared->Prop}(I:Inv X pins Z H s)(e:H a=some (.ins C dx fs))(c:iY X.K C)(n:u6 X.K C f)(l:fs.lookup f=some v)(h:∀u s',Inv X pins Z H s'->RelV v u->Q u s'):wpAny (model X.prog X.w) A (getAttr (.ref a) f b) Q E s:=by
 obtain⟨mA,O,r,_,_,_⟩:=yQ I.bx e;obtain⟨u,hu,ru⟩:=B0.some_of (v:=v) (o:=mA f) (by rw[<- l];exact r f);exact get_map I.fu O (c.get f) c.hd n hu (TH ru) (h u _ (I.tok _) ru)
theorem Vj{y:V}{u:Value}{Q:Unit->Shared->Prop}(I:Inv X pins Z H s)(e:H a=some (.ins C dx fs))(c:iY X.K C)(n:u6 X.K C f)(hl:fs.length<1000)(ry:RelV y u)(h:∀s',Inv X pins Z (upd H a (.ins C dx (t4 f y fs))) s'->Q () s'):wpAny (model X.prog X.w) A (setAttr (.ref a) f u) Q E s:=by
 obtain⟨mA,O,r,wi,_,ho⟩:=yQ I.bx e;have hz:(fs.map (·.1)).length<=sizeLine:=by rw[aj,jx];omega
 refine Wd I.fu O c.sa c.po n.LJ c.hd wi hz λh' O' sb=>h _ ?_;have hd:∃o,h'.get? dx=some o:=let ⟨o,_,_,e',_⟩:=O'.ns;⟨o,e'⟩
 refine I.write (x:=a) (e:=dx) (by rw[e];exact True.intro) (.inr ho) (λb q hb z=>(sb.2 b hb).trans z) hd ?_;refine⟨by rw[f9 O.ne];exact ho,?_,O.ne,O'.obj,_,O'.ns,λg=>?_,λg hg=>?_⟩
 ·have:=Ek f y fs;omega
 ·show B0 ((t4 f y fs).lookup g) (if g=f then some u else mA g);rw[El];by_cases q:g=f
  ·rw[aG q,aG q];exact ry
  ·rw[aE q,aE q];exact r g
 ·by_cases q:g=f
  ·rw[q];exact(Y5 f y fs).1
  ·refine(Y5 f y fs).2 g (wi g λz=>hg ?_);show(if g=f then some u else mA g)=none;rw[aE q];exact z
theorem Inv.made(I:Inv X pins Z H s):Inv X pins Z (upd (upd H s.heap.objs.size (.own (s.heap.objs.size+1))) (s.heap.objs.size+1) (.ins C s.heap.objs.size []))
  { s with heap:=(s.heap.push PySem.W.emptyDict).push (PySem.W.instObj C s.heap.objs.size) }:=by
 have e1:(s.heap.push PySem.W.emptyDict).get? s.heap.objs.size=some PySem.W.emptyDict:=ax s.heap rfl;have e2:((s.heap.push PySem.W.emptyDict).push (PySem.W.instObj C s.heap.objs.size)).get? (s.heap.objs.size+1)=some (PySem.W.instObj C s.heap.objs.size):=by
  have:=ax (s.heap.push PySem.W.emptyDict) (o:=PySem.W.instObj C s.heap.objs.size) rfl
  rwa [dD] at this
 have e3:(s.heap.push PySem.W.emptyDict).Ns s.heap.objs.size (λ_=>none):=⟨PySem.W.emptyDict,#[],_,e1,rfl,(λe he=>absurd he (by simp)),λ_=>rfl⟩
 have I1:=I.laid (a:=s.heap.objs.size) (o:=.own (s.heap.objs.size+1)) (h':=s.heap.push PySem.W.emptyDict) (t':=s.toks) (λb u q=>ai _ q) (ak _) ⟨_,e1⟩;refine I1.laid (a:=s.heap.objs.size+1) (o:=.ins C s.heap.objs.size []) (t':=s.toks) (λb u q=>ai _ q) (Nat.le_of_eq (dD _ _)) ?_;have ne:s.heap.objs.size≠s.heap.objs.size+1:=aK (eB _);refine⟨by rw[f9 ne,l0],cQ _,ne,e2,λ_=>none,(Heap.Ns1.of_empty e3).at λo q=>ai _ q,λ_=>True.intro,λy hy=>absurd rfl hy⟩
theorem Oq{prog:Program}{w:World}{env:Env}{e:Expr}{f:Str}{pos:Pos}{s:Shared}{Q:Value->Shared->Prop}(hb:attributeBase e f env (eval e env)=eval e env)(h:wpAny (model prog w) A (eval e env) (λo bD=>wpAny (model prog w) A (getAttr o f true) Q E bD) E s):wpAny (model prog w) A (eval (.Attribute e f pos) env) Q E s :=
 Attribute_any_ h (by rw[arm_eval_Attribute,hb])
end
def QB(K:PySem.W.Frag)(ta:TE)(f:Str):TE:=λZ H Q=>ta Z H λx H1=>∃a C dx fs v,x=.ref a/\H1 a=some (.ins C dx fs)/\iY K C/\u6 K C f/\fs.lookup f=some v/\Q v H1
def Qr(K:PySem.W.Frag)(ta tv:TE)(f:Str):TS:=λD Z H=>tv Z H λy H1=>ta Z H1 λx H2=>∃a C dx fs,x=.ref a/\H2 a=some (.ins C dx fs)/\iY K C/\u6 K C f/\fs.length<1000 /\
 D.nx Z (upd H2 a (.ins C dx (t4 f y fs)))
def Cm(X:Cx)(op:Operator)(rd:V->V->Hp->VK->Prop):Prop :=
 ∀(pins:List (Addr×Obj)) (s:Shared) (Z:St) (H:Hp) (x y:V) (u v:Value) (Q:VK),Inv X pins Z H s->RelV x u->RelV y v->rd x y H Q->wpAny (model X.prog X.w) X.A (inplaceOp op u v) (EP X pins Z Q) X.xe s
section
variable{X:Cx}{o e value:Expr}{f:Str}{pos pos' vG:Pos}{ta tv:TE}
theorem MW(he:PE X e ta)(hb:attributeBase e f X.env (eval e X.env)=eval e X.env):PE X (.Attribute e f pos) (QB X.K ta f):=by
 intro pins s Z H Q I h;refine Oq hb (bS (he pins s Z H _ I h) λu s1 aX=>?_);obtain⟨x,H1,I1,rx,a,C,dx,fs,v,ex,ea,c,n,l,q⟩:=aX;subst ex;obtain rfl:u=Value.ref a:=rx;exact UR I1 ea c n l λu' s2 I2 ru=>⟨v,H1,I2,ru,q⟩
theorem Nh(ha:PE X o ta)(hv:PE X value tv)(hs:swapsWith value (some (.Attribute o f pos')) pos.line X.env=pure false):PS X (.Assign [.Attribute o f pos'] value pos) (Qr X.K ta tv f):=by
 intro pins s Z H D I h;refine plainObj_wpAny_Assign_Attribute (bS (hv pins s Z H _ I h) λu s1 ⟨y,H1,I1,ry,q⟩=>bS (ha pins s1 Z H1 _ I1 q) λov s2 aX=>?_) hs;obtain⟨x,H2,I2,rx,a,C,dx,fs,ex,ea,c,n,l,q2⟩:=aX;subst ex;obtain rfl:ov=Value.ref a:=rx;exact Vj I2 ea c n l ry λs3 I3=>⟨Z,_,I3,q2⟩
def Qh:V->V->Hp->VK->Prop:=λx y H Q=>∃i j,x=.int i/\y=.int j/\Q (.int (i+j)) H
theorem Mh:Cm X .Add Qh:=by
 rintro pins s Z H x y u v Q I rx ry ⟨i,j,rfl,rfl,q⟩;obtain⟨t,rfl⟩:=(show ∃t,u=Value.int i t from rx)
 obtain⟨t',rfl⟩:=(show ∃t',v=Value.int j t' from ry)
 exact PyProof.Rows.iadd_int ⟨.int (i+j),H,I.tok _,⟨_,rfl⟩,q⟩
end
section
variable{X:Cx}{pins:List (Addr×Obj)}{Z:St}{H:Hp}{s:Shared}{A:Around}{E:Value->Shared->Prop}{Q:Value->Shared->Prop}{c:Value}{b:Bool}
inductive fM(K:PySem.W.Frag)(H:Hp):V->Value->Prop where
 |bw:fM K H .bw (.type "NoneType")
 |bl (x:Bool):fM K H (.bl x) (.type "bool")
 |int (i:Int):fM K H (.int i) (.type "int")
 |str (x:Str):fM K H (.str x) (.type "str")
 |oJ (x:UInt64):fM K H (.oJ x) (.type "float")
 |lst {a:Addr} {xs:List V} (e:H a=some (.lst xs)):fM K H (.ref a) (.type "list")
 |iL {a:Addr} {o:Obj} {xs:List V} (e:H a=some (.iL o (.lst xs))):fM K H (.ref a) (.type "list")
 |tup {a:Addr} {xs:List V} (e:H a=some (.tup xs)):fM K H (.ref a) (.type "tuple")
 |dK {a:Addr} {kvs:List (Key×V)} (e:H a=some (.dK kvs)):fM K H (.ref a) (.type "dict")
 |dT {a:Addr} {kvs:List (List Key×V)} (e:H a=some (.dT kvs)):fM K H (.ref a) (.type "dict")
 |ins {a C dx:Addr} {fs:List (Str×V)} (e:H a=some (.ins C dx fs)) (cl:iY K C) (ha:PySem.W.findIn K (.ref C) "__class__"=some (some (.builtin "object.__class__")))
   (hn:PySem.W.specialIn K (.builtin "object.__class__") "__get__"=some (some (.builtin "getset_descriptor.__get__"))) (tV:PySem.W.takesIn K (.builtin "object.__class__")=some true)
   (hm:PySem.W.mroIn K C (.type "object")=some true):fM K H (.ref a) (.ref C)
theorem TM{x:V}{u t:Value}(I:Inv X pins Z H s)(rx:RelV x u)(ty:fM X.K H x t)(e:PySem.W.kitOne X.K t c=some b)(h:∀tk,Q (.bool b) { s with toks:=tk }) :
  wpAny (model X.prog X.w) A (call (.builtin "isinstance") [u,c]) Q E s:=by
 cases ty with
 |bw=>cases (show u=Value.none from rx);exact bG PySem.W.kitx_none I.fu True.intro e (λz=>nomatch z) h
 |bl y=>cases (show u=Value.bool y from rx);exact bG PySem.W.kitx_bool I.fu True.intro e (λz=>nomatch z) h
 |int i=>obtain⟨t,q⟩:=(show ∃t,u=Value.int i t from rx);cases q;exact bG PySem.W.kitx_int I.fu True.intro e (λz=>nomatch z) h
 |str y=>obtain⟨t,q⟩:=(show ∃t,u=Value.str y t from rx);cases q;exact bG PySem.W.kitx_str I.fu True.intro e (λz=>nomatch z) h
 |oJ y=>obtain⟨t,q⟩:=(show ∃t,u=Value.float y t from rx);cases q;exact bG PySem.W.kitx_float I.fu True.intro e (λz=>nomatch z) h
 |@lst a xs ea =>
  cases (show u=Value.ref a from rx);obtain⟨_,_,n,_,h1⟩:=(show j8 X.prog X.w H s.heap a (.lst xs) from I.bx a _ ea)
  exact bG WR I.fu ⟨_,h1,rfl⟩ e (λz=>nomatch z) h
 |@iL a ob xs ea =>
  cases (show u=Value.ref a from rx);obtain⟨_,_,_,n,_,h1⟩:=(show j8 X.prog X.w H s.heap a (.iL ob (.lst xs)) from I.bx a _ ea)
  exact bG WR I.fu ⟨_,h1,rfl⟩ e (λz=>nomatch z) h
 |@tup a xs ea =>
  cases (show u=Value.ref a from rx);obtain⟨_,_,_,p⟩:=(show j8 X.prog X.w H s.heap a (.tup xs) from I.bx a _ ea)
  obtain⟨o,h1,h2,_⟩:=p;exact bG GB I.fu ⟨o,h1,h2⟩ e (λz=>nomatch z) h
 |@dK a kvs ea =>
  cases (show u=Value.ref a from rx);obtain⟨_,_,vs,_,p⟩:=(show j8 X.prog X.w H s.heap a (.dK kvs) from I.bx a _ ea)
  obtain⟨o,es,ep,h1,h2,_⟩:=p;exact bG WS I.fu ⟨o,h1,h2.1⟩ e (λz=>nomatch z) h
 |@dT a kvs ea =>
  cases (show u=Value.ref a from rx);obtain⟨_,_,xs,_,o,es,ep,h1,h2,_⟩:=(show j8 X.prog X.w H s.heap a (.dT kvs) from I.bx a _ ea)
  exact bG WS I.fu ⟨o,h1,h2.1⟩ e (λz=>nomatch z) h
 |@ins a C dx fs ea cl ha hn tV hm =>
  cases (show u=Value.ref a from rx);obtain⟨mA,O,_⟩:=yQ I.bx ea;obtain⟨od,J,_⟩:=O.look;exact bG (PySem.W.kitx_own (cl.get _) cl.hd ha hn tV hm) I.fu J e (λz=>nomatch z) h
end
structure m9(k:Nat)(A:Around):Prop where
 hd:A.handled=none
 dp:A.depth+3*k+5<recursionLimit
 un:A.units+16*k+200<cLine
theorem m9.mono{j k:Nat}{A:Around}(r:m9 k A)(h:j<=k):m9 j A:=⟨r.hd,by have:=r.dp;omega,by have:=r.un;omega⟩
theorem m9.deeper{k:Nat}{A:Around}(r:m9 (k+1) A)(env:Env):m9 k (A.deeper env) :=
 ⟨r.hd,by have:=r.dp;show A.depth+1+3*k+5<_;omega,by have:=r.un;show A.units+3+16*k+200<_;omega⟩
theorem UZ{A:Around}{C:Addr}{us:List Value}{kw:List (Str×Value)}:(A.under (.builtin "type.__call__" ⟨.ref C::us,kw⟩)).depth=A.depth+1:=by
 first|rfl|simp[Around.under,Code.weight,Code.isCreation,Code.isGuard,Code.isCaller,Code.frames,Code.isFrame,guardIds]
theorem U'{A:Around}{C:Addr}{us:List Value}{kw:List (Str×Value)}:(A.under (.builtin "type.__call__" ⟨.ref C::us,kw⟩)).units=A.units+1:=by
 first|rfl|simp[Around.under,Code.cUnits,Code.frames,Code.isFrame]
theorem m9.make{k:Nat}{A:Around}(r:m9 (k+1) A)(C:Addr)(us:List Value)(kw:List (Str×Value)):m9 k (A.under (.builtin "type.__call__" ⟨.ref C::us,kw⟩)) :=
 ⟨r.hd,by have:=r.dp;rw[UZ];omega,by have:=r.un;rw[U'];omega⟩
theorem m9.depth{k:Nat}{A:Around}(r:m9 k A):A.depth<recursionLimit:=by have:=r.dp;omega
def zo:TA:=λ_ H Q=>Q [] H
def Ly(ta:TE)(tr:TA):TA:=λZ H Q=>ta Z H λx H1=>tr Z H1 λxs H2=>Q (x::xs) H2
section
variable{X:Cx}{e:Expr}{es:List Expr}{te:TE}{t:TA}{pos:Pos}
theorem M6:PA X [] zo:=λ_ _ _ _ H Q I h=>Calls.spliced_nil ⟨[],H,I,.nil,h⟩
theorem F8(ha:PE X e te)(hr:PA X es t)(hs:starEach (e::es) X.env=(false,eval e X.env)::starEach es X.env:=by rfl):PA X (e::es) (Ly te t):=by
 intro pos pins s Z H Q I h;rw[hs];show wpAny _ _ (spliced ((false,eval e X.env)::backTo pos (starEach es X.env))) _ _ s;refine Calls.spliced_cons (bS (ha pins s Z H _ I h) λu s1 aX=>?_);obtain⟨x,H1,I1,r1,q1⟩:=aX;exact bS (hr pos pins s1 Z H1 _ I1 q1) λus s2 ⟨xs,H2,I2,r2,q2⟩=>⟨x::xs,H2,I2,.cons r1 r2,q2⟩
def JR(t:TA):TE:=λZ H Q=>t Z H λxs H1=>xs.length<=sizeLine/\∀p,H1 p=none->Q (.ref p) (upd H1 p (.tup xs))
def JJ(t:TA):TE:=λZ H Q=>t Z H λxs H1=>xs.length<=sizeLine/\∀p,H1 p=none->Q (.ref p) (upd H1 p (.lst xs))
theorem Na{x1}(h:PA X es t):PE X (.Tuple es x1 pos) (JR t):=by
 intro pins s Z H Q I hq;refine wpAny_Tuple_spliced (bS (h pos pins s Z H _ I hq) λus s1 ⟨xs,H1,I1,r,z,q⟩=>⟨by rw[<- r.length];exact z,?_⟩);have hf:H1 s1.heap.objs.size=none:=I1.bx.fresh (ak _);refine⟨.ref s1.heap.objs.size,upd H1 s1.heap.objs.size (.tup xs),I1.laid (t':=s1.toks) (λb u e=>ai _ e) (ak _) ?_,rfl,q _ hf⟩;exact⟨z,us,r,⟨_,ax _ rfl,rfl,⟨_,rfl⟩,rfl⟩⟩
theorem EK(h:PA X es t):PE X (.List es pos) (JJ t):=by
 intro pins s Z H Q I hq;refine wpAny_List_spliced (bS (h pos pins s Z H _ I hq) λus s1 ⟨xs,H1,I1,r,z,q⟩=>⟨by rw[<- r.length];exact z,?_⟩);have hf:H1 s1.heap.objs.size=none:=I1.bx.fresh (ak _);refine⟨.ref s1.heap.objs.size,upd H1 s1.heap.objs.size (.lst xs),I1.laid (t':=s1.toks) (λb u e=>ai _ e) (ak _) ?_,rfl,q _ hf⟩;exact⟨z,us,0,r,ax _ rfl⟩
end
noncomputable abbrev Sp:=List V->Hp->VK->XK->Prop
noncomputable abbrev lT:=List Env->Hp->Shared->XK->Value->Shared->Prop
structure oS(P:Program)(w:World)(K:PySem.W.Frag)(mg:Str->Option Value)(base:Heap)(A:Around)(outer:List Env)(s:Shared)(H:Hp):Prop where
 frames:A.frames=some outer
 mod:Mod K mg base
 bs:∀b o,base.get? b=some o->s.heap.get? b=some o/\H b=none
 lP:base.objs.size<=s.heap.objs.size
 C2:s.heap.FunFrames base outer
 lY:∀b∈eP outer,H b=none
 bx:ff P w H s.heap
 bare:AllBare s.gens
def CE(outer:List Env)(P:Program)(w:World)(H:Hp)(s:Shared)(Q:VK)(u:Value)(s':Shared):Prop :=
 ∃v H',s'.os=s.os/\AllBare s'.gens/\Un (eP outer) [] H H' s.heap s'.heap/\ff P w H' s'.heap/\RelV v u/\Q v H'
def CR(CX:lT)(outer:List Env)(P:Program)(w:World)(H:Hp)(s:Shared)(Q:VK)(E:XK)(r:Result)(s':Shared):Prop :=
 match r with
 |.ok (.ret u)=>CE outer P w H s Q u s'
 |.ok _=>False
 |.error e=>CX outer H s E e s'
structure gg(P:Program)(w:World)(K:PySem.W.Frag)(mg:Str->Option Value)(base:Heap)(CX:lT)(k:Nat)(f:Addr)(fd:FuncData)(ps:List Str)(sp:Sp):Prop where
 len:∀vs H Q E,sp vs H Q E->vs.length=ps.length
 run:∀(A:Around) (outer:List Env) (s:Shared) (H:Hp) (args:Args) (us:List Value) (vs:List V) (Q:VK) (E:XK),m9 k A->oS P w K mg base A outer s H->BindsTo s fd args (ps.zip us)->Vals vs us->sp vs H Q E ->
  codeAny (model P w) A (.call (.ref f) args) (CR CX outer P w H s Q E) s
theorem oS.make{P:Program}{w:World}{K:PySem.W.Frag}{mg:Str->Option Value}{base:Heap}{A:Around}{outer:List Env}{s:Shared}{H:Hp}(e:oS P w K mg base A outer s H)(C:Addr)(us:List Value)(kw:List (Str×Value)) :
  oS P w K mg base (A.under (.builtin "type.__call__" ⟨.ref C::us,kw⟩)) outer s H:=⟨by first|exact e.frames|(simpa[Around.under,Code.envs,Code.isFrame,pushEnvs] using e.frames),e.mod,e.bs,e.lP,e.C2,e.lY,e.bx,e.bare⟩
section
variable{X:Cx}{pins:List (Addr×Obj)}{Z:St}{H:Hp}{s s':Shared}
theorem Inv.Cp(I:Inv X pins Z H s):oS X.prog X.w X.K X.mg X.base X.A X.stack s H :=
 ⟨I.ok.frames,I.ok.mod,I.bs,aO I.ok.lP I.sz,I.stack,I.Z6,I.bx,I.bare⟩
theorem Inv.after{Q:VK}{u:Value}(I:Inv X pins Z H s)(h:CE X.stack X.prog X.w H s Q u s'):EP X pins Z Q u s':=by
 obtain⟨v,H',os,bare,un,bx,r,q⟩:=h;obtain⟨hh,g,d,t,qu⟩:=s';obtain rfl:qu=s.os:=os;exact⟨v,H',I.call (h':=hh) (g':=g) (d':=d) (t':=t) (ch:=[]) un bx bare (λb z=>absurd z (by simp)),r,q⟩
end
def Gg(sp:Sp)(iO:List V)(E:XK)(t:TA):TE:=λZ H Q=>t Z H λvs H1=>sp (vs++iO) H1 Q E
def Gh(C:Addr)(sp:Sp)(iO:List V)(E:XK)(t:TA):TE:=λZ H Q=>t Z H λvs H1=>∀x dx,H1 x=none->H1 dx=none->dx≠x ->
 sp (.ref x::(vs++iO)) (upd (upd H1 dx (.own x)) x (.ins C dx [])) (λv H2=>v=.bw/\Q (.ref x) H2) E
def Binds(K:PySem.W.Frag)(fd:FuncData)(ps:List Str)(ds:List Value):Prop :=
 ∀(s:Shared) (us:List Value),K.In s.heap->(us++ds).length=ps.length->BindsTo s fd ⟨us,[]⟩ (ps.zip (us++ds))
theorem Binds.all{K:PySem.W.Frag}{fd:FuncData}{ps:List Str}(h:∀us:List Value,us.length=ps.length->bindArgs fd ⟨us,[]⟩=pure (ps.zip us)):Binds K fd ps []:=λs us _ hl=>by
 rw[gF] at hl ⊢;exact .of_eq (h us hl)
def Passes(CX:lT)(X:Cx)(E:XK):Prop:=∀(pins:List (Addr×Obj)) (Z:St) (H:Hp) (s:Shared) (e:Value) (s':Shared),Inv X pins Z H s->CX X.stack H s E e s'->X.xe e s'
section
variable{X:Cx}{CX:lT}{k:Nat}{f C:Addr}{fd:FuncData}{ps:List Str}{sp:Sp}{iO:List V}{ds:List Value}{E:XK}{x m:Str}{p pos apos:Pos}{e o:Expr}{es:List Expr}{ta:TE}{t:TA}
theorem yw{pins:List (Addr×Obj)}{Z:St}{H:Hp}{s:Shared}{Q:VK}{us:List Value}{vs:List V}(F:gg X.prog X.w X.K X.mg X.base CX k f fd ps sp)(hr:m9 k X.A)(hb:Binds X.K fd ps ds)(hd:Vals iO ds)(hx:Passes CX X E)(I:Inv X pins Z H s)(r:Vals vs us)(h:sp (vs++iO) H Q E):wpAny (model X.prog X.w) X.A (call (.ref f) us) (EP X pins Z Q) X.xe s:=by
 have r2:Vals (vs++iO) (us++ds):=r.append hd;have hl:(us++ds).length=ps.length:=by rw[<- r2.length];exact F.len _ _ _ _ h
 refine wpAny_call (fI (F.run X.A X.stack s H ⟨us,[]⟩ (us++ds) (vs++iO) Q E hr I.Cp (hb s us I.fu hl) r2 h) λr s' hq=>?_);cases r with
 |error e=>exact hx pins Z H s e s' I hq
 |ok fl =>
  cases fl with
  |ret u=>exact I.after hq
  |next=>exact False.elim hq
  |brk=>exact False.elim hq
  |cont=>exact False.elim hq
theorem VA(F:gg X.prog X.w X.K X.mg X.base CX k f fd ps sp)(hr:m9 k X.A)(hg:Gl X x)(hm:X.mg x=some (.ref f))(hk:PySem.W.keepIn X.K (.ref f)=true)(hb:Binds X.K fd ps ds)(hd:Vals iO ds)(hx:Passes CX X E)(ha:PA X (e::es) t)(fQ:(x==("__debug__":Str))=false:=by decide)(he:starEach (e::es) X.env=(false,eval e X.env)::starEach es X.env:=by rfl)(fm:(backTo pos (starEach es X.env)).any (·.1)=false:=by rfl) :
  PE X (.Call (.Name x p) (e::es) [] pos) (Gg sp iO E t):=by
 intro pins s Z H Q I h;refine cc (H9 I hg hm ?_ fQ);refine iZ (h₀:=X.base) I.ok.mod.lA hk (bS (ha pos pins s Z H _ I h) λus s1 ⟨vs,H1,I1,r,q⟩=>⟨I1.fu,?_⟩) he fm;exact yw F hr hb hd hx I1 r q
theorem Sj(F:gg X.prog X.w X.K X.mg X.base CX k f fd ps sp)(hr:m9 k X.A)(hg:Gl X x)(hm:X.mg x=some (.ref f))(hk:PySem.W.keepIn X.K (.ref f)=true)(hb:Binds X.K fd ps ds)(hd:Vals iO ds)(hx:Passes CX X E)(fQ:(x==("__debug__":Str))=false:=by decide):PE X (.Call (.Name x p) [] [] pos) (Gg sp iO E zo):=by
 intro pins s Z H Q I h;refine cc (H9 I hg hm ?_ fQ);exact Ap I.fu hk (yw (us:=[]) F hr hb hd hx I .nil h)
structure Mk(K:PySem.W.Frag)(C f:Addr):Prop where
 makes:PySem.W.makesIn K C=true
 init:PySem.W.findIn K (.ref C) "__init__"=some (some (.ref f))
 fn:PySem.W.isFn K (.ref f)=true
 kp:PySem.W.keepIn K (.ref C)=true
theorem CZ{pins:List (Addr×Obj)}{Z:St}{H:Hp}{s:Shared}{Q:VK}{us:List Value}{vs:List V}(M:Mk X.K C f)(F:gg X.prog X.w X.K X.mg X.base CX k f fd ps sp)(hr:m9 (k+1) X.A)(hb:Binds X.K fd ps ds)(hd:Vals iO ds)(hx:Passes CX X E)(I:Inv X pins Z H s)(r:Vals vs us)(h:∀x dx,H x=none->H dx=none->dx≠x->sp (.ref x::(vs++iO)) (upd (upd H dx (.own x)) x (.ins C dx [])) (λv H2=>v=.bw/\Q (.ref x) H2) E) :
  wpAny (model X.prog X.w) X.A (call (.ref C) us) (EP X pins Z Q) X.xe s:=by
 have hq:=h (s.heap.objs.size+1) s.heap.objs.size (I.bx.fresh (fC _)) (I.bx.fresh (ak _)) (aK (eB _));have I2:=Inv.made (C:=C) I;have r2:Vals (V.ref (s.heap.objs.size+1)::(vs++iO)) (Value.ref (s.heap.objs.size+1)::(us++ds)):=.cons rfl (r.append hd);have hl:(Value.ref (s.heap.objs.size+1)::us++ds).length=ps.length:=by
  have e:=r2.length;rw[F.len _ _ _ _ hq] at e;exact e.symm
 refine wpAny_call (RZ (f:=f) I.fu M.makes M.init (fg.mp M.fn) (fI (F.run _ X.stack _ _ ⟨Value.ref (s.heap.objs.size + 1) :: us,[]⟩ (Value.ref (s.heap.objs.size + 1) :: (us ++ ds)) _ _ E (hr.make C us [])
  (I2.Cp.make C us []) (hb _ (Value.ref (s.heap.objs.size + 1) :: us) I2.fu hl) r2 hq) λr s' lD=>?_))
 cases r with
 |error e=>exact hx pins Z _ _ e s' I2 lD
 |ok fl =>
  cases fl with
  |ret u =>
   obtain⟨v,H',I3,rv,ev,q3⟩:=I2.after lD;subst ev;exact⟨rv,⟨V.ref (s.heap.objs.size+1),H',I3,rfl,q3⟩⟩
  |next=>exact False.elim lD
  |brk=>exact False.elim lD
  |cont=>exact False.elim lD
theorem VD(M:Mk X.K C f)(F:gg X.prog X.w X.K X.mg X.base CX k f fd ps sp)(hr:m9 (k+1) X.A)(hg:Gl X x)(hm:X.mg x=some (.ref C))(hb:Binds X.K fd ps ds)(hd:Vals iO ds)(hx:Passes CX X E)(ha:PA X (e::es) t)(fQ:(x==("__debug__":Str))=false:=by decide)(he:starEach (e::es) X.env=(false,eval e X.env)::starEach es X.env:=by rfl)(fm:(backTo pos (starEach es X.env)).any (·.1)=false:=by rfl) :
  PE X (.Call (.Name x p) (e::es) [] pos) (Gh C sp iO E t):=by
 intro pins s Z H Q I h;refine cc (H9 I hg hm ?_ fQ);refine iZ (h₀:=X.base) I.ok.mod.lA M.kp (bS (ha pos pins s Z H _ I h) λus s1 ⟨vs,H1,I1,r,q⟩=>⟨I1.fu,?_⟩) he fm;exact CZ M F hr hb hd hx I1 r q
theorem So(M:Mk X.K C f)(F:gg X.prog X.w X.K X.mg X.base CX k f fd ps sp)(hr:m9 (k+1) X.A)(hg:Gl X x)(hm:X.mg x=some (.ref C))(hb:Binds X.K fd ps ds)(hd:Vals iO ds)(hx:Passes CX X E)(fQ:(x==("__debug__":Str))=false:=by decide):PE X (.Call (.Name x p) [] [] pos) (Gh C sp iO E zo):=by
 intro pins s Z H Q I h;refine cc (H9 I hg hm ?_ fQ);exact Ap I.fu M.kp (CZ (us:=[]) M F hr hb hd hx I .nil h)
end
section
variable{X:Cx}{CX:lT}{k:Nat}{f C:Addr}{fd:FuncData}{ps ks:List Str}{sp:Sp}{E:XK}{x m:Str}{p pos apos Hz:Pos}{e o:Expr}{es:List Expr}{ig:List Keyword}{te ta:TE}{t tk:TA}{nm:Option Str}
variable{g:List Value->List Value->List Value}{gV:List V->List V->List V}
end
structure gH(N P:List Str)(sc:Scope):Prop where
 kind:sc.kind=.function
 co:sc.isCoroutine=false
 gen:sc.isGenerator=false
 nd:N.Nodup
 pre:N.take P.length=P
 par:∀x∈P,sc.names.lookup x=some .local\/sc.names.lookup x=some .cell
 lq:∀y∈sc.names,y.2≠.free
theorem Dq{kindOf:Str->Option NameKind}{x:Str}:∀{binds:List (Str×Value)} {m:Str->Option Value},(∀v,(x,v)∉binds)->bindL kindOf binds m x=m x
 |[],_,_=>rfl
 |(n,v)::r,m,h=>by
  unfold bindL;rw[Dq λw hw=>h w (bB _ hw)];split
  ·have:x≠n:=by rintro rfl;exact h v fh
   simp[this]
  ·rfl
theorem Dn{kindOf:Str->Option NameKind}{x:Str}:∀{binds:List (Str×Value)} {m:Str->Option Value},(∀v,(x,v)∉binds)->bindC kindOf binds m x=m x
 |[],_,_=>rfl
 |(n,v)::r,m,h=>by
  unfold bindC;rw[Dn λw hw=>h w (bB _ hw)];split
  ·rfl
  ·have:x≠n:=by rintro rfl;exact h v fh
   simp[this]
theorem Dp{kindOf:Str->Option NameKind}{x:Str}{v:Value}:∀{P:List Str} {vs:List Value} {i:Nat} {m:Str->Option Value},P.Nodup->P[i]?=some x->vs[i]?=some v->kindOf x=some .local ->
  bindL kindOf (P.zip vs) m x=some v
 |[],_,_,_,_,h,_,_=>by simp at h
 |_::_,[],_,_,_,_,h,_=>by simp at h
 |p::P,w::vs,0,m,nd,h1,h2,hk=>by
  simp at h1 h2;subst h1;subst h2;show bindL kindOf ((p,w)::P.zip vs) m p=_;unfold bindL;rw[Dq λv hv=>(eR.mp nd).1 (kR hv).1,aG hk];simp
 |p::P,w::vs,i+1,m,nd,h1,h2,hk=>by
  show bindL kindOf ((p,w)::P.zip vs) m x=_;unfold bindL;exact Dp (i:=i) (eR.mp nd).2 (by simpa using h1) (by simpa using h2) hk
theorem Dm{kindOf:Str->Option NameKind}{x:Str}{v:Value}:∀{P:List Str} {vs:List Value} {i:Nat} {m:Str->Option Value},P.Nodup->P[i]?=some x->vs[i]?=some v->kindOf x≠some .local ->
  bindC kindOf (P.zip vs) m x=some v
 |[],_,_,_,_,h,_,_=>by simp at h
 |_::_,[],_,_,_,_,h,_=>by simp at h
 |p::P,w::vs,0,m,nd,h1,h2,hk=>by
  simp at h1 h2;subst h1;subst h2;show bindC kindOf ((p,w)::P.zip vs) m p=_;unfold bindC;rw[Dn λv hv=>(eR.mp nd).1 (kR hv).1,aE hk];simp
 |p::P,w::vs,i+1,m,nd,h1,h2,hk=>by
  show bindC kindOf ((p,w)::P.zip vs) m x=_;unfold bindC;exact Dm (i:=i) (eR.mp nd).2 (by simpa using h1) (by simpa using h2) hk
def start(N:List Str)(vs:List V):St:=vs.map some++List.replicate (N.length-vs.length) none
def U7(CX:lT)(P:Program)(w:World)(K:PySem.W.Frag)(mg:Str->Option Value)(base:Heap)(N:List Str)(qual:Str)(scope:Scope)(f:Addr)(cd:Value)(A:Around)(outer:List Env)(s:Shared)(H:Hp)(E:XK):Cx where
 prog:=P
 w:=w
 K:=K
 mg:=mg
 base:=base
 A:=A.deeper (envOfC qual scope s.heap.objs.size f cd)
 N:=N
 cE:=s
 ij:=H
 env:=envOfC qual scope s.heap.objs.size f cd
 outer:=outer
 stack:=envOfC qual scope s.heap.objs.size f cd::outer
 ex:=[]
 calm:=true
 fn:=λ_=>true
 pn:=[]
 xe:=λe s'=>wpAny (model P w) (A.deeper (envOfC qual scope s.heap.objs.size f cd)) (leaving (envOfC qual scope s.heap.objs.size f cd) e) (λ_ mw=>CX outer H s E e mw) (λe' mw=>CX outer H s E e' mw) s'
theorem yY{sc:Scope}{n:Nat}{x:Str}(h:sc.names.lookup x=some .cell):∃c,(cellsFrom n sc.names []).lookup x=some c:=by
 have q:=cS sc.names n [] (.inl h);exact dC.mp q
theorem TL{CX:lT}{P:Program}{w:World}{K:PySem.W.Frag}{mg:Str->Option Value}{base:Heap}{N ps:List Str}{qual:Str}{scope:Scope}{f:Addr}{cd:Value}{A:Around}{outer:List Env}{s s1:Shared}{H:Hp}{E:XK}{us:List Value}{vs:List V}(S:gH N ps scope)(hd:A.handled=none)(e0:oS P w K mg base A outer s H)(hl:vs.length=ps.length)(r:Vals vs us)(x:InCallC s s.heap.objs.size (bindL (envOfC qual scope s.heap.objs.size f cd).kindOf (ps.zip us) λ_=>none) (cellsFrom (s.heap.objs.size+1) scope.names []) (bindC (envOfC qual scope s.heap.objs.size f cd).kindOf (ps.zip us) λ_=>none) s1) :
  Inv (U7 CX P w K mg base N qual scope f cd A outer s H E) [] (start N vs) H s1:=by
 have fm:ps.length<=N.length:=by have:=fT List.length S.pre;rw[bX] at this;omega
 obtain⟨h1,tk,rfl,hk⟩:=x.done;have qE:∀b:Addr,b∉(U7 CX P w K mg base N qual scope f cd A outer s H E).ex:=λb z=>absurd (show b∈([]:List Addr) from z) (by simp);refine ⟨⟨e0.mod,S.kind,rfl,rfl,ak _,λy z c h1 h2=>?_,λy hy=>?_,λy c _ h=>?_,λ_=>hd,Around.frames_deeper e0.frames,.inr ⟨rfl,rfl⟩,λb z=>absurd z (qE b),e0.bs,e0.lP,λb _ _=>qE b,λb z=>absurd z (qE b),e0.C2,e0.lY⟩,
  rfl,e0.bare,Un.kept hk,⟨_,x.toInCall.ns,λi y v h1 h2 h3=>?_⟩,λy c h=>⟨_,x.cell y c h⟩,e0.bx.fresh (ak _),λy c h=>?_,λp hp=>absurd (show p ∈ ([]:List (Addr × Obj)) from hp) (by simp),e0.bx.kept hk,?_⟩
 ·exact name_of_addr x.apart (aI h1) (aI h2)
 ·have hy:scope.names.lookup y=some .cell\/scope.names.lookup y=some .free:=hy;rcases hy with hy|hy
  ·exact yY hy
  ·exact absurd rfl (S.lq _ (aI hy))
 ·exact dt (x.above y c (aI h))
 ·have hi:i<vs.length:=by
   unfold start at h2;by_cases hi:i<vs.length
   ·exact hi
   ·rw[dn (by simpa using hi)] at h2;rw[cM] at h2;split at h2<;>cases h2
  have ha:vs[i]?=some v:=by
   unfold start at h2;rw[aA (by simpa using hi),aD] at h2;cases e:vs[i]? with
   |none=>rw[e] at h2;cases h2
   |some a=>rw[e] at h2;cases h2;rfl
  obtain⟨u,hu,rv⟩:=r.get ha;have hp:ps[i]?=some y:=by
   rw[<- S.pre,List.getElem?_take_of_lt (by omega)];exact h1
  have AU:ps.Nodup:=by rw[<- S.pre];exact S.nd.sublist (List.take_sublist _ _)
  refine⟨u,rv,?_⟩;rcases S.par y (aZ hp) with k|k
  ·exact .inl ⟨k,Dp AU hp hu k⟩
  ·obtain⟨c,e⟩:=yY (n:=s.heap.objs.size+1) k;refine .inr ⟨.inl k,c,e,?_⟩;have q:=x.cell y c e;rw[Dm AU hp hu (by show scope.names.lookup y≠_;rw[k];decide)] at q;exact q
 ·exact e0.bx.fresh (dt (x.above y c (aI h)))
 ·unfold start;show _=N.length;rw[bc,aj,gN];omega
theorem Kk{CX:lT}{P:Program}{w:World}{K:PySem.W.Frag}{mg:Str->Option Value}{base:Heap}{k:Nat}{f:Addr}{name qual:Str}{params:Arguments}{body:List Stmt}{scope:Scope}{dV kV doc pm eM ct oc:Value}{an od:Option Addr}{kJ:Array (Option Value)}{N ps:List Str}{sp:Sp}(lk:K.lookup f=some ⟨oc,od,.func (PySem.W.fnOf name qual params body scope dV kV doc pm an eM ct),kJ⟩)(kq:PySem.W.codeIn K eM qual=true)(S:gH N ps scope)(len:∀vs H Q E,sp vs H Q E->vs.length=ps.length)(rG:∀ (A:Around) (outer:List Env) (s:Shared) (H:Hp) (vs:List V) (Q:VK) (E:XK),m9 k (A.deeper (envOfC qual scope s.heap.objs.size f eM))->sp vs H Q E ->
   ∃ t,hJ (U7 CX P w K mg base N qual scope f eM A outer s H E) body t/\t { nx:=λ_ H'=>Q .bw H',rt:=Q } (start N vs) H) :
  gg P w K mg base CX (k+1) f (PySem.W.fnOf name qual params body scope dV kV doc pm an eM ct) ps sp:=by
 refine⟨len,λA outer s H args us vs Q E hr e0 hb r pq=>?_⟩;have hl:=len _ _ _ _ pq;have KX:K.In s.heap:=e0.mod.lA.keeps λb o e=>(e0.bs b o e).1;have lim:s.heap.NoLimit:=e0.mod.nolimit.keeps λb o e=>(e0.bs b o e).1;have rn:∀y∈ps.zip us,scope.names.lookup y.1=some .local\/(scope.names.lookup y.1=some .cell/\((cellsFrom (s.heap.objs.size+1) scope.names []).lookup y.1).isSome=true):=λ⟨n,v⟩ hy=>by
  rcases S.par n (kR hy).1 with q|q
  ·exact .inl q
  ·exact .inr ⟨q,cS _ _ _ (.inl q)⟩
 refine codeAny_call_function hr.depth (KX _ _ lk) rfl S.co S.gen rfl (PySem.W.codeRec_of KX kq) (hb _ _ _ _ ?_);refine wpAny_newFunctionEnv_cells S.kind rn λenv he s1 x=>?_;subst he;refine⟨lim.keeps x.toInCall.keep,codeAny_func ?_⟩;obtain⟨t,ht,hq⟩:=rG A outer s H vs Q E (hr.deeper _) pq;have I:Inv (U7 CX P w K mg base N qual scope f eM A outer s H E) [] (start N vs) H s1:=TL S hr.hd e0 hl r x;refine bg (ht [] s1 (start N vs) H _ I hq) (λfl s' hs=>?_) λe s' hs=>hs;have fin:∀{bI:St} {H':Hp} {v:V} {u:Value},Inv (U7 CX P w K mg base N qual scope f eM A outer s H E) [] bI H' s'->RelV v u->Q v H'->CE outer P w H s Q u s' :=
  λ{bI H' v u} J rv q=>⟨v,H',J.os,J.bare,J.base,J.bx,rv,q⟩
 cases fl with
 |ret u =>
  obtain⟨v,bI,H',J,rv,q⟩:=hs;exact fin J rv q
 |next =>
  obtain⟨bI,H',J,q⟩:=hs;exact fin (v:=V.bw) (u:=Value.none) J rfl q
 |brk =>
  obtain⟨_,_,_,q⟩:=hs;exact False.elim q
 |cont =>
  obtain⟨_,_,_,q⟩:=hs;exact False.elim q
section
variable{X:Cx}{x:Str}{p pos:Pos}{e:Expr}{es:List Expr}{t:TA}{id T:String}{r:List V->Hp->VK->Prop}
def vJ(r:List V->Hp->VK->Prop)(t:TA):TE:=λZ H Q=>t Z H λvs H1=>r vs H1 Q
theorem S5(hc:j9 X (.builtin id) r)(hg:Gl X x)(hm:X.mg x=none)(hv:bootBuiltins x=some (.builtin id))(ha:PA X (e::es) t)(hn:x≠"__name__":=by decide)(fQ:(x==("__debug__":Str))=false:=by decide)(he:starEach (e::es) X.env=(false,eval e X.env)::starEach es X.env:=by rfl)(fm:(backTo pos (starEach es X.env)).any (·.1)=false:=by rfl):PE X (.Call (.Name x p) (e::es) [] pos) (vJ r t):=by
 intro pins s Z H Q I h;refine cc (E8 I hg hm hv ?_ hn fQ);exact PyProof.Rows.callWith_builtin1 (bS (ha pos pins s Z H _ I h) λus s1 ⟨vs,H1,I1,r1,q1⟩=>hc pins s1 Z H1 vs us Q I1 r1 q1) he fm
theorem J9(hc:j9 X (.type T) r)(hg:Gl X x)(hm:X.mg x=none)(hv:bootBuiltins x=some (.type T))(ha:PA X (e::es) t)(hn:x≠"__name__":=by decide)(fQ:(x==("__debug__":Str))=false:=by decide)(he:starEach (e::es) X.env=(false,eval e X.env)::starEach es X.env:=by rfl)(fm:(backTo pos (starEach es X.env)).any (·.1)=false:=by rfl):PE X (.Call (.Name x p) (e::es) [] pos) (vJ r t):=by
 intro pins s Z H Q I h;refine cc (E8 I hg hm hv ?_ hn fQ);exact bu (bS (ha pos pins s Z H _ I h) λus s1 ⟨vs,H1,I1,r1,q1⟩=>hc pins s1 Z H1 vs us Q I1 r1 q1) he fm
end
end L2

namespace HT
open PySem PyProof.Rows
section
open PySem.SeqAt
open PySem.AutoSeq1 (wpAny_loadPart')
open PySem.MeetsSeq PySem.MeetsSeq2 PySem.MeetsSeq3
end
section
variable{prog:Program}{w:World}{A:Around}{E:Value->Shared->Prop}{s:Shared}
theorem Ot{t b:Addr}{vs ws:List Value}{Q:Value->Shared->Prop}(ht:IsTup s.heap t vs.toArray)(hb:IsTup s.heap b ws.toArray)(hv:vs≠[])(h1:ws=[]->Q (.ref t) s)(h2:ws≠[]->Q (.ref s.heap.objs.size) { s with heap:=s.heap.push { cls:=.type "tuple",data:=.seq (vs++ws).toArray } })(hsz:vs.length+ws.length<=sizeLine):wpAny (model prog w) A (binaryOp .Add (.ref t) (.ref b)) Q E s:=by
 obtain⟨⟨cls,dd,data,sl⟩,ho,hc,n,hd⟩:=id ht;obtain⟨⟨su,nD,data2,jQ⟩,jH,lJ,n2,hd2⟩:=id hb;simp only at hc hd lJ hd2;subst hc hd lJ hd2;have e:vs.toArray++ws.toArray=(vs++ws).toArray:=by simp
 by_cases hw:ws=[]
 ·exact XY ⟨_,ho,rfl⟩ ⟨_,jH,rfl⟩ hV kz gs fU (fJ _ _)
   (tuple_addW1 t b vs.toArray ws.toArray n n2 dd nD sl jQ (by simpa using hv) (by simp[hw])) ⟨ho,jH,h1 hw⟩
 ·refine XY ⟨_,ho,rfl⟩ ⟨_,jH,rfl⟩ hV kz gs fU (fJ _ _)
   (tuple_addW2 t b vs.toArray ws.toArray n n2 dd nD sl jQ (by simpa using hv) (by simpa using hw) (by rw[ay,ay];exact hsz)) ⟨ho,jH,?_⟩
  rw[e];exact h2 hw
def cN(n d:Nat):Option Int->Nat
 |none=>d
 |some v=>if v<0 then(v+(n:Int)).toNat else min v.toNat n
theorem Nt(n d:Nat)(hd:d<=n)(o:Option Int):cN n d o<=n:=by
 cases o with
 |none=>exact hd
 |some v =>
  show(if v<0 then(v+(n:Int)).toNat else min v.toNat n)<=n;by_cases hv:v<0
  ·rw[aG hv];omega
  ·rw[aE hv];exact Nat.min_le_right _ _
theorem EZ(v:Int)(n d:Nat):(if v<0 then max (v+(n:Int)) 0 else min v (n:Int))=((cN n d (some v):Nat):Int):=by
 show(if v<0 then max (v+(n:Int)) 0 else min v (n:Int))=(((if v<0 then(v+(n:Int)).toNat else min v.toNat n):Nat):Int);by_cases hv:v<0
 ·simp only[if_pos hv];omega
 ·simp only[if_neg hv];omega
theorem UI(lo hi:Option Int)(n:Nat):Builtin.Slice.sliceAdjust lo hi 1 (n:Int)=(((cN n 0 lo:Nat):Int),((cN n n hi:Nat):Int)):=by
 have h1:¬((1:Int)<0):=by omega
 unfold Builtin.Slice.sliceAdjust;simp only[h1,if_false];refine Prod.ext ?_ ?_
 ·cases lo with
  |none=>rfl
  |some v=>exact EZ v n 0
 ·cases hi with
  |none=>rfl
  |some v=>exact EZ v n n
theorem Vg(i j:Nat):Builtin.Slice.slicePlaces (i:Int) (j:Int) 1=j-i:=by
 unfold Builtin.Slice.slicePlaces;have h1:(1:Int)>0:=by omega
 simp only[h1,if_true,Int.ediv_one];split<;>omega
theorem Eg{v:Value}{o:Option Int}{Q:Option Int->Shared->Prop}(p:IsPart v o)(h:Q o s):wpAny (model prog w) A (Builtin.Slice.slicePartIndex v) Q E s:=by
 cases p with
 |none=>exact slicePart_none h
 |int i t=>exact slicePart_int h
theorem M3{sl:Addr}{vl vu:Value}{lo hi:Option Int}{n:Nat}{Q:Int×Int×Nat->Shared->Prop}(hs:s.heap.IsSliceOf sl vl vu .none)(pl:IsPart vl lo)(pu:IsPart vu hi)(h:Q (((cN n 0 lo:Nat):Int),1,cN n n hi-cN n 0 lo) s):wpAny (model prog w) A (Builtin.Slice.sliceApplied (.ref sl) (pure (n:Int))) Q E s:=by
 obtain⟨os,ot,tY,rC⟩:=id hs;unfold Builtin.Slice.sliceApplied Builtin.Slice.sliceFields;refine aa (aa (jw ot rC (x:=vl) rfl (aa (jw ot rC (x:=vu) rfl (aa (jw ot rC (x:=.none) rfl (ah ?_)))))));refine aa (slicePart_none ?_);show wpAny _ _ (if((1:Int)==0)=true then _ else _) _ _ s;rw[aE (by decide)];refine aa (Eg pl (aa (Eg pu (aa (ah ?_)))));show wpAny _ _ (match Builtin.Slice.sliceAdjust lo hi 1 (n:Int) with|(lo,hi)=>pure (lo,(1:Int),Builtin.Slice.slicePlaces lo hi 1)) _ _ s;rw[UI lo hi n];show wpAny _ _ (pure (((cN n 0 lo:Nat):Int),(1:Int),Builtin.Slice.slicePlaces ((cN n 0 lo:Nat):Int) ((cN n n hi:Nat):Int) 1)) _ _ s;rw[Vg];exact ah h
theorem Ss(xs:Array Value)(i k:Nat):((List.range k).filterMap λ(m:Nat)=>xs[((i:Int)+(m:Int)*1).toNat]?).toArray=((xs.toList.drop i).take k).toArray:=by
 have e:(λ(m:Nat)=>xs[((i:Int)+(m:Int)*1).toNat]?)=λm=>xs[i+m]?:=by
  funext m
  have:((i:Int)+(m:Int)*1).toNat=i+m:=by omega
  rw[this]
 rw[e];have:=pick_run xs i k;rw[List.filterMap_map] at this;have e2:((λx=>xs[x]?) ∘ λx=>i+x)=λm=>xs[i+m]?:=rfl;rw[e2] at this;rw[this]
theorem RL{t sl:Addr}{items:Array Value}{vl vu:Value}{lo hi:Option Int}{Q:Value->Shared->Prop}(ht:IsTup s.heap t items)(hs:s.heap.IsSliceOf sl vl vu .none)(pl:IsPart vl lo)(pu:IsPart vu hi)(hw:¬(cN items.size 0 lo=0/\cN items.size items.size hi=items.size))(h:Q (.ref s.heap.objs.size) { s with heap:=s.heap.push { cls:=.type "tuple",data:=.seq ((items.toList.drop (cN items.size 0 lo)).take (cN items.size items.size hi-cN items.size 0 lo)).toArray } })(hsz:items.size<=sizeLine):wpAny (model prog w) A (getItem (.ref t) (.ref sl)) Q E s:=by
 have jU:sizeOk (.seq ((items.toList.drop (cN items.size 0 lo)).take (cN items.size items.size hi-cN items.size 0 lo)).toArray):=by
  show((items.toList.drop (cN items.size 0 lo)).take (cN items.size items.size hi-cN items.size 0 lo)).toArray.size<=sizeLine;rw[ay,bX,fW,bj];omega
 have hj:cN items.size items.size hi<=items.size:=Nt _ _ (ak _) hi;obtain⟨os,ot,tY,rC⟩:=id hs;have wQ:s.TypeIs (.ref sl) "slice":=⟨os,ot,tY⟩
 unfold getItem
 try with_reducible refine bT ?_
 first|refine aa (ah ?_)|skip
 refine aa (wpAny_sequenceKey ht.typeIs (by decide) ?_);refine aa (et (name:=Str.ofString "__getitem__") ht.typeIs bz
  (cb bz ht.typeIs entry_tuple_getitem ?_ (args_tuple_getitem _ _)))
 show wpAny _ _ (Builtin.Tuple.tupleItemsOf (.ref t) >>= _) _ _ s;refine aa (tupleItemsOf_ ht ?_);refine aa (dI wQ ?_);rw[aG (by decide)];refine aa (M3 hs pl pu ?_);have rh:¬((((cN items.size 0 lo:Nat):Int)==0&&(1:Int)==1&&(cN items.size items.size hi-cN items.size 0 lo)==items.size)=true):=by
  intro q;rw[aW,aW] at q;have q1:((cN items.size 0 lo:Nat):Int)=0:=eq_of_beq q.1.1;have q2:cN items.size items.size hi-cN items.size 0 lo=items.size:=eq_of_beq q.2;exact hw ⟨by omega,by omega⟩
 show wpAny _ _ (if(((cN items.size 0 lo:Nat):Int)==0&&(1:Int)==1&&(cN items.size items.size hi-cN items.size 0 lo)==items.size)=true then _ else _) _ _ s;rw[aE rh,Ss]
 first
  |exact wpAny_bind (m:=Builtin.Tuple.tupleExact _) (wpAny_newObj_type (wpAny_pure ⟨_,rfl,wpAny_pure h⟩) jU)
  |exact wpAny_bind (m:=Builtin.Tuple.tupleExact _) (wpAny_newObj_type (wpAny_bind (wpAny_pure (wpAny_pure ⟨_,rfl,wpAny_pure h⟩))) jU)
  |exact wpAny_bind (wpAny_bind (m:=Builtin.Tuple.tupleExact _) (wpAny_newObj_type (wpAny_pure (wpAny_pure ⟨_,rfl,wpAny_pure h⟩)) jU))
  |exact wpAny_bind (wpAny_bind (m:=Builtin.Tuple.tupleExact _) (wpAny_newObj_type (wpAny_pure ⟨_,rfl,wpAny_pure h⟩) jU))
end
end HT
namespace L2
open PySem PySem.Spec PyProof.Rows
noncomputable abbrev TO:=St->Hp->(Option Int->Hp->Prop)->Prop
def PO(X:Cx)(e:Option Expr)(t:TO):Prop :=
 ∀(pins:List (Addr×Obj)) (s:Shared) (Z:St) (H:Hp) (Q:Option Int->Hp->Prop),Inv X pins Z H s->t Z H Q ->
  wpAny (model X.prog X.w) X.A (evalPart e X.env) (λu s'=>∃o H',Inv X pins Z H' s'/\IsPart u o/\Q o H') X.xe s
def Wq:TO:=λ_ H Q=>Q none H
def LD(t:TE):TO:=λZ H Q=>t Z H λx H1=>∃i,x=.int i/\Q (some i) H1
section
variable{X:Cx}{e:Expr}{te:TE}{lo hi:Option Expr}{tl th:TO}{pos p2:Pos}
theorem Z7:PO X none Wq:=by
 intro pins s Z H Q I h;rw[evalPart_none];exact ah ⟨none,H,I,.none,h⟩
theorem Fx(h:PE X e te):PO X (some e) (LD te):=by
 intro pins s Z H Q I hw;rw[evalPart_some];refine bS (h pins s Z H _ I hw) λu s1 aX=>?_;obtain⟨x,H1,I1,r1,q1⟩:=aX;obtain⟨i,rfl,q⟩:=q1;obtain⟨t,rfl⟩:=r1;exact⟨some i,H1,I1,.int i t,q⟩
def sX(X:Cx)(r:V->Option Int->Option Int->Hp->VK->Prop):Prop :=
 ∀(pins:List (Addr×Obj)) (s:Shared) (Z:St) (H:Hp) (x:V) (v vl vu:Value) (lo hi:Option Int) (sl:Addr) (Q:VK),Inv X pins Z H s->RelV x v->s.heap.IsSliceOf sl vl vu .none->IsPart vl lo->IsPart vu hi->r x lo hi H Q ->
  ∃T id,typeLookup (.type T) "__getitem__"=pure (some (.builtin id))/\s.TypeIs v T/\wpAny (model X.prog X.w) X.A (getItem v (.ref sl)) (EP X pins Z Q) X.xe s
def GV(r:V->Option Int->Option Int->Hp->VK->Prop)(te:TE)(tl th:TO):TE:=λZ H Q=>te Z H λx H1=>tl Z H1 λl H2=>th Z H2 λu H3=>r x l u H3 Q
theorem zd{r:V->Option Int->Option Int->Hp->VK->Prop}(hr:sX X r)(he:PE X e te)(hl:PO X lo tl)(hu:PO X hi th):PE X (.Subscript e (.Slice lo hi none p2) pos) (GV r te tl th):=by
 intro pins s Z H Q I h;refine Subscript_ (bS (he pins s Z H _ I h) λv s1 aX=>?_);obtain⟨x,H1,I1,r1,q1⟩:=aX;refine wpAny_Slice (bS (hl pins s1 Z H1 _ I1 q1) λvl s2 ⟨l,H2,I2,pl,q2⟩=>bS (hu pins s2 Z H2 _ I2 q2) λvu s3 aX=>?_);obtain⟨u,H3,I3,pu,q3⟩:=aX;rw[evalPart_none];refine ah ?_;have I4:Inv X pins Z H3 { s3 with heap:=s3.heap.push { cls:=.type "slice",data:=.fields #[vl,vu,.none] } }:=I3.kept (t':=s3.toks) λb ob q=>ai _ q;obtain⟨T,id,hT,ht,hg⟩:=hr pins { s3 with heap:=s3.heap.push { cls:=.type "slice",data:=.fields #[vl,vu,.none] } } Z H3 x v vl vu l u s3.heap.objs.size Q I4 r1 (Heap.IsSliceOf.new ..) pl pu q3;show wpAny (model X.prog X.w) X.A (subscriptTail e (.Slice lo hi none p2) v (.ref s3.heap.objs.size)) (EP X pins Z Q) X.xe { s3 with heap:=s3.heap.push { cls:=.type "slice",data:=.fields #[vl,vu,.none] } };exact tail_any (ops:=[.ref s3.heap.objs.size,v]) ht hT hg (by with_unfolding_all rfl)
def N1(xs:List V)(lo hi:Option Int):List V:=(xs.drop (HT.cN xs.length 0 lo)).take (HT.cN xs.length xs.length hi-HT.cN xs.length 0 lo)
theorem Ei(xs:List V)(lo hi:Option Int):(N1 xs lo hi).length<=xs.length:=by
 unfold N1;rw[bX,fW];omega
def Qp(K:PySem.W.Frag):V->Option Int->Option Int->Hp->VK->Prop:=λx lo hi H Q=>∃a xs,x=.ref a/\gC K H a xs /\
 ¬(HT.cN xs.length 0 lo=0/\HT.cN xs.length xs.length hi=xs.length)/\∀p,H p=none->Q (.ref p) (upd H p (.tup (N1 xs lo hi)))
theorem NK:sX X (Qp X.K):=by
 intro pins s Z H x v vl vu lo hi sl Q I rx hs pl pu h;obtain⟨a,xs,rfl,hx,hw,q⟩:=h;cases rx;obtain⟨aQ,r,ht,hz⟩:=I.tuple hx;have hlen:aQ.toArray.size=xs.length:=by rw[ay];exact r.length.symm
 refine⟨"tuple",_,bz.lookup,ht.typeIs,?_⟩;refine HT.RL ht hs pl pu (by rw[hlen];exact hw) ?_ (by rw[hlen];exact hz);rw[hlen];refine⟨.ref s.heap.objs.size,_,I.laid (t':=s.toks) (o:=.tup (N1 xs lo hi)) (λb ob q=>ai _ q) (ak _) ?_,rfl,q _ (I.bx.fresh (ak _))⟩;exact⟨aO (Ei xs lo hi) hz,_,(r.drop (HT.cN xs.length 0 lo)).take (HT.cN xs.length xs.length hi-HT.cN xs.length 0 lo),B8.new _ _⟩
def Lg(K:PySem.W.Frag):R2:=λx y H Q=>∃a b xs ys,x=.ref a/\y=.ref b/\gC K H a xs/\gC K H b ys/\xs≠[]/\xs.length+ys.length<=sizeLine /\
 (ys=[]->Q (.ref a) H)/\(ys≠[]->∀p,H p=none->Q (.ref p) (upd H p (.tup (xs++ys))))
theorem Vals.L6{xs:List V}{us:List Value}(r:Vals xs us):us=[]↔xs=[]:=by
 cases r with
 |nil=>simp
 |cons _ _=>simp
theorem OW:eI X (binaryOp .Add) (Lg X.K):=by
 intro pins s Z H x y v u Q I rx ry h;obtain⟨a,b,xs,ys,rfl,rfl,ha,hb,hx,hz,q1,q2⟩:=h;cases rx;cases ry;obtain⟨aQ,r1,p1,_⟩:=I.tuple ha;obtain⟨lB,r2,p2,_⟩:=I.tuple hb;refine HT.Ot p1 p2 (λz=>hx (r1.L6.mp z)) (λz=>⟨.ref a,H,I,rfl,q1 (r2.L6.mp z)⟩) (λz=>?_) (by rw[<- r1.length,<- r2.length];exact hz);refine⟨.ref s.heap.objs.size,_,I.laid (t':=s.toks) (o:=.tup (xs++ys)) (λb ob q=>ai _ q) (ak _) ?_,rfl,q2 (λw=>z (r2.L6.mpr w)) _ (I.bx.fresh (ak _))⟩;exact⟨by rw[bc];exact hz,_,r1.append r2,B8.new _ _⟩
end
def jT(n:Nat)(i:Int):Option Nat:=if 0<=i then(if i<n then some i.toNat else none) else if -(n:Int)<=i then some (i+n).toNat else none
def fB{α:Type}(xs:List α)(i:Int):Option α:=(jT xs.length i).bind λj=>xs[j]?
theorem Fj{n:Nat}{i:Int}{j:Nat}(h:jT n i=some j):seqIndex? i n=some j/\j<n/\-(n:Int)<=i/\i<n:=by
 unfold jT at h;by_cases h0:0<=i
 ·rw[aG h0] at h;by_cases h1:i<n
  ·rw[aG h1] at h;have e:i.toNat=j:=aF h;exact⟨by rw[seqIndex_of h0 h1,e],by omega,by omega,h1⟩
  ·rw[aE h1] at h;cases h
 ·rw[aE h0] at h;by_cases h1:-(n:Int)<=i
  ·rw[aG h1] at h;have e:(i+n).toNat=j:=aF h;exact⟨by rw[XX (by omega) h1,e],by omega,h1,by omega⟩
  ·rw[aE h1] at h;cases h
theorem yG{α:Type}{xs:List α}{i:Int}{v:α}(h:fB xs i=some v):∃j,seqIndex? i xs.length=some j/\xs[j]?=some v/\j<xs.length/\-(xs.length:Int)<=i/\i<xs.length:=by
 unfold fB at h;cases e:jT xs.length i with
 |none=>rw[e] at h;cases h
 |some j =>
  rw[e] at h;obtain⟨h1,h2,h3,h4⟩:=Fj e;exact⟨j,h1,h,h2,h3,h4⟩
theorem R7{α:Type}{xs:List α}{j:Nat}{v:α}(h:xs[j]?=some v):fB xs (j:Int)=some v:=by
 have hj:j<xs.length:=(av.mp h).1;have e:jT xs.length (j:Int)=some j:=by
  unfold jT;rw[aG (by omega),aG (by omega)];simp
 unfold fB;rw[e];exact h
def uT(b:Expr):Prop:=∀o i,subscripted b false o i=operate [o,i] (getItem o i)
def oW(X:Cx)(r:R2):Prop :=
 ∀(value slice:Expr) (pins:List (Addr×Obj)) (s:Shared) (Z:St) (H:Hp) (x y:V) (v u:Value) (Q:VK),Inv X pins Z H s->RelV x v->RelV y u->r x y H Q ->
  subscripted slice false v u=operate [v,u] (getItem v u)->wpAny (model X.prog X.w) X.A (subscriptTail value slice v u) (EP X pins Z Q) X.xe s
def lR(X:Cx)(id:String)(r:V->List V->Hp->VK->Prop):Prop :=
 ∀(pins:List (Addr×Obj)) (s:Shared) (Z:St) (H:Hp) (x:V) (xs:List V) (v:Value) (us:List Value) (Q:VK),Inv X pins Z H s->RelV x v->Vals xs us->r x xs H Q ->
  wpAny (model X.prog X.w) X.A (call (.builtin id) (v::us)) (EP X pins Z Q) X.xe s
section
variable{X:Cx}{a b:Expr}{ta tb:TE}{pos:Pos}
theorem zI{r:R2}(hr:oW X r)(ha:PE X a ta)(hb:PE X b tb)(hs:uT b):PE X (.Subscript a b pos) (ph r ta tb):=by
 intro pins s Z H Q I h;exact Subscript_ (zY ha hb I h λv u s2 x y H2 I2 rx ry q=>hr a b pins s2 Z H2 x y v u Q I2 rx ry q (hs _ _))
def Qj(K:PySem.W.Frag):R2:=λx y H Q=>∃p xs i v,x=.ref p/\y=.int i/\eQ K H p xs/\fB xs i=some v/\Q v H
def Ql(K:PySem.W.Frag):R2:=λx y H Q=>∃p xs i v,x=.ref p/\y=.int i/\gC K H p xs/\fB xs i=some v/\Q v H
def Qk:R2:=λx y H Q=>∃z i c,x=.str z/\y=.int i/\z.length<=sizeLine/\fB z.cps.toList i=some c/\Q (.str ⟨#[c]⟩) H
theorem Fl:oW X (Qj X.K):=by
 intro value slice pins s Z H x y v u Q I rx ry h hs;obtain⟨p,xs,i,z,rfl,rfl,hq,he,q⟩:=h;cases rx;obtain⟨t,rfl⟩:=ry;obtain⟨aQ,r,pl,hz⟩:=I.list hq;obtain⟨j,h1,h2,h3,h4,h5⟩:=yG he;obtain⟨w,ew,eZ⟩:=r.get h2;have hl:=r.length;have hn:=M9;have fin:EP X pins Z Q w s:=⟨z,H,I,eZ,q⟩
 by_cases h0:0<=i
 ·have hj:i.toNat=j:=by
   rw[seqIndex_of h0 h5] at h1;exact aF h1
  exact item_listR pl.isList h0 (by omega) (by rw[hj];simpa using ew) fin hs
 ·have hj:(i+(aQ.toArray.size:Int)).toNat=j:=by
   rw[XX (by omega) h4] at h1;rw[ay,<- hl];exact aF h1
  exact subscriptTail_builtinR (x:=w) pl.isList.typeIs slot_list_getitem.lookup
   (wpAny_getItem_list_neg (Q:=λr s'=>r=w/\EP X pins Z Q r s') pl.isList (by omega) (by rw[ay]<;>omega) (by omega) (by rw[hj];simpa using ew) ⟨rfl,fin⟩) hs
theorem Mn:oW X (Ql X.K):=by
 intro value slice pins s Z H x y v u Q I rx ry h hs;obtain⟨p,xs,i,z,rfl,rfl,hq,he,q⟩:=h;cases rx;obtain⟨t,rfl⟩:=ry;obtain⟨aQ,r,pl,hz⟩:=I.tuple hq;obtain⟨j,h1,h2,h3,h4,h5⟩:=yG he;obtain⟨w,ew,eZ⟩:=r.get h2;have hl:=r.length;have hn:=M9;have fin:EP X pins Z Q w s:=⟨z,H,I,eZ,q⟩
 exact subscriptTail_builtinR (x:=w) pl.typeIs slot_tuple_getitem.lookup
  (getItem_tuple (j:=j) (Q:=λr s'=>r=w/\EP X pins Z Q r s') pl (by omega) (by omega) (by rw[ay,<- hl];exact h1) (by simpa using ew) ⟨rfl,fin⟩) hs
theorem Mm:oW X Qk:=by
 intro value slice pins s Z H x y v u Q I rx ry h hs;obtain⟨z,i,c,rfl,rfl,hz,he,q⟩:=h;obtain⟨t,rfl⟩:=rx;obtain⟨t',rfl⟩:=ry;obtain⟨j,h1,h2,h3,h4,h5⟩:=yG he;have hl:z.cps.toList.length=z.length:=by simp[Str.length]
 rw[hl] at h1 h4 h5;have hn:=M9;exact tail_any (typeIs_str s z t) slot_str_getitem.lookup (getItem_str (c:=c) (by
  have e1:decide (i < -(2 ^ 63:Int))=false:=aC (by omega);have e2:decide (i>=2 ^ 63)=false:=aC (by omega);rw [e1,e2,Bool.or_false]) (by rw [h1];simpa using h2) ⟨.str ⟨#[c]⟩,H,I.tok _,⟨_,rfl⟩,q⟩) hs
theorem Va(aQ:List Value)(n j:Nat)(u:Value):Obj.mapSeq (·.setIfInBounds j u) { cls:=.type "list",data:=.seq aQ.toArray n }={ cls:=.type "list",data:=.seq (aQ.set j u).toArray n }:=by
 simp[Obj.mapSeq]
theorem Inv.lst{pins:List (Addr×Obj)}{Z:St}{H:Hp}{s:Shared}{p:Addr}{xs:List V}(I:Inv X pins Z H s)(h:H p=some (.lst xs)) :
  ∃(aQ:List Value) (n:Nat),Vals xs aQ/\s.heap.get? p=some { cls:=.type "list",data:=.seq aQ.toArray n }/\xs.length<=sizeLine:=by
 obtain⟨z,aQ,n,r,e⟩:=I.bx p _ h;exact⟨aQ,n,r,e,z⟩
theorem Inv.My{pins:List (Addr×Obj)}{Z:St}{H:Hp}{s:Shared}{p:Addr}{xs ys:List V}{aQ its':List Value}{n n':Nat}{f:Obj->Obj}(I:Inv X pins Z H s)(h:H p=some (.lst xs))(ho:s.heap.get? p=some { cls:=.type "list",data:=.seq aQ.toArray n })(hf:f { cls:=.type "list",data:=.seq aQ.toArray n }={ cls:=.type "list",data:=.seq its'.toArray n' })(r:Vals ys its')(hz:ys.length<=sizeLine)(t:Nat) :
  Inv X pins Z (upd H p (.lst ys)) { s with heap:=s.heap.update p f,toks:=t }:=by
 have e:(s.heap.update p f).get? p=some { cls:=.type "list",data:=.seq its'.toArray n' }:=by
  rw[aS f ho (by rw[hf]<;>rfl),hf]
 refine I.write (x:=p) (e:=p) (by rw[h];trivial) (.inl rfl) (λb u hb q=>(bL _ _ (bR hb)).trans q) ⟨_,e⟩ ?_;exact⟨hz,its',n',r,e⟩
def Lj:V->V->V->Hp->(Hp->Prop)->Prop:=λo i v H Q=>∃p xs k j,o=.ref p/\i=.int k/\H p=some (.lst xs)/\jT xs.length k=some j/\Q (upd H p (.lst (xs.set j v)))
theorem set_list:zU X Lj:=by
 intro pins s Z H o i v ov iv u Q I ro ri rv h;obtain⟨p,xs,k,j,rfl,rfl,hp,hj,q⟩:=h;cases ro;obtain⟨t,rfl⟩:=ri;obtain⟨aQ,n,r,ho,hz⟩:=I.lst hp;obtain⟨h1,h2,h3,h4⟩:=Fj hj;have hl:=r.length;have hn:=M9;have I':Inv X pins Z (upd H p (.lst (xs.set j v))) { s with heap:=s.heap.update p (Obj.mapSeq (·.setIfInBounds j u)) } :=
  I.My hp ho (Va aQ n j u) (r.set rv j) (by rw[List.length_set];exact hz) s.toks
 by_cases h0:0<=k
 ·have hk:k.toNat=j:=by
   rw[seqIndex_of h0 h4] at h1;exact aF h1
  exact PySem.W.ki_setAt ho h0 (by omega) (by rw[ay,<- hl];exact h4) (by rw[hk];exact⟨_,I',q⟩)
 ·have hk:(k+(aQ.toArray.size:Int)).toNat=j:=by
   rw[XX (by omega) h3] at h1;rw[ay,<- hl];exact aF h1
  exact PySem.W.ki_setBack ho (by omega) (by rw[ay,<- hl];exact h3) (by omega) (by rw[hk];exact⟨_,I',q⟩)
theorem Ro(lo hi:Option Int)(n:Nat):(sliceBounds lo hi none n).1=((HT.cN n 0 lo:Nat):Int)/\(sliceBounds lo hi none n).2.1=((HT.cN n n hi:Nat):Int)/\(sliceBounds lo hi none n).2.2=1:=by
 refine⟨?_,?_,rfl⟩
 ·cases lo with
  |none=>simp[sliceBounds,HT.cN]
  |some i =>
   simp only[sliceBounds,HT.cN,Option.getD_none,show(1:Int)>0 by decide,if_true];by_cases h:i<0
   ·simp only[h,if_true]<;>omega
   ·simp only[h,if_false]<;>omega
 ·cases hi with
  |none=>simp[sliceBounds,HT.cN]
  |some i =>
   simp only[sliceBounds,HT.cN,Option.getD_none,show(1:Int)>0 by decide,if_true];by_cases h:i<0
   ·simp only[h,if_true]<;>omega
   ·simp only[h,if_false]<;>omega
theorem RB(aQ:List Value)(lo hi:Option Int):slicePick aQ.toArray lo hi none=((aQ.drop (HT.cN aQ.length 0 lo)).take (HT.cN aQ.length aQ.length hi-HT.cN aQ.length 0 lo)).toArray:=by
 obtain⟨h1,h2,h3⟩:=Ro lo hi aQ.toArray.size;unfold slicePick;rw[h1,h2,h3];simp only[sliceRange_one,pick_run,List.size_toArray]<;>rfl
def Qo(K:PySem.W.Frag):V->Option Int->Option Int->Hp->VK->Prop:=λx lo hi H Q=>∃a xs,x=.ref a/\eQ K H a xs/\∀p,H p=none->Q (.ref p) (upd H p (.lst (N1 xs lo hi)))
theorem Wi:sX X (Qo X.K):=by
 intro pins s Z H x v vl vu lo hi sl Q I rx hs pl pu h;obtain⟨a,xs,rfl,hx,q⟩:=h;cases rx;obtain⟨aQ,r,ht,hz⟩:=I.list hx;have hlen:=r.length;refine⟨"list",_,slot_list_getitem.lookup,ht.isList.typeIs,?_⟩;refine wpAny_getItem_list_slice ht.isList hs pl pu .none (by simp) ?_ (by rw[ay]<;>omega);rw[RB,<- hlen];refine⟨.ref s.heap.objs.size,_,I.laid (t':=s.toks) (o:=.lst (N1 xs lo hi)) (λb ob q=>ai _ q) (ak _) ?_,rfl,q _ (I.bx.fresh (ak _))⟩;exact⟨aO (Ei xs lo hi) hz,_,0,(r.drop (HT.cN xs.length 0 lo)).take (HT.cN xs.length xs.length hi-HT.cN xs.length 0 lo),ax _ rfl⟩
def BK:V->V->Bool
 |.bw,.bw=>true
 |.bl a,.bl b=>a==b
 |.bl a,.int b=>(if a then 1 else 0)==b
 |.int a,.bl b=>a==(if b then 1 else 0)
 |.int a,.int b=>a==b
 |.str a,.str b=>a==b
 |_,_=>false
theorem QY:j9 X (.builtin "len") (λxs H Q=>∃p ys,xs=[.ref p]/\(eQ X.K H p ys\/gC X.K H p ys)/\Q (.int ys.length) H):=by
 intro pins s Z H xs us Q I r h;obtain⟨p,ys,rfl,hq,q⟩:=h;obtain⟨u,rfl,rx⟩:=vals1 r;cases rx;have hn:=M9;rcases hq with hq|hq
 ·obtain⟨aQ,r',pl,hz⟩:=I.list hq;have hlen:=r'.length;exact Calls.call_len_list pl.isList (by simp only[List.size_toArray]<;>omega) ⟨.int ys.length,H,I.tok _,⟨s.toks+1,by rw[ay,hlen]⟩,q⟩
 ·obtain⟨aQ,r',pl,hz⟩:=I.tuple hq;have hlen:=r'.length;exact len_tuple pl (by simp only[List.size_toArray]<;>omega) ⟨.int ys.length,H,I.tok _,⟨s.toks+1,by rw[ay,hlen]⟩,q⟩
theorem QZ:j9 X (.builtin "len") (λxs H Q=>∃z,xs=[.str z]/\z.length<=sizeLine/\Q (.int z.length) H):=by
 intro pins s Z H xs us Q I r h;obtain⟨z,rfl,hz,q⟩:=h;obtain⟨u,rfl,t,rfl⟩:=vals1 r;have hn:=M9;exact len_str (by omega) ⟨.int z.length,H,I.tok _,⟨_,rfl⟩,q⟩
theorem Ra:j9 X (.type "list") (λxs H Q=>∃p ys,xs=[.ref p]/\(eQ X.K H p ys\/gC X.K H p ys)/\∀l,H l=none->Q (.ref l) (upd H l (.lst ys))):=by
 intro pins s Z H xs us Q I r h;obtain⟨p,ys,rfl,hq,q⟩:=h;obtain⟨u,rfl,rx⟩:=vals1 r;cases rx;have fin:∀(aQ:List Value),Vals ys aQ->ys.length<=sizeLine->∀(h':Heap) (c':Nat),(∀b o',s.heap.get? b=some o'->h'.get? b=some o') ->
   h'.get? s.heap.objs.size=some { cls:=.type "list",dict:=none,data:=.seq aQ.toArray c',slots:=#[] }->EP X pins Z Q (.ref s.heap.objs.size) { s with heap:=h' }:=λaQ r' hz h' c' kp e =>
  ⟨.ref s.heap.objs.size,_,I.laid (t':=s.toks) kp (ak _) (show j8 X.prog X.w _ h' _ (.lst ys) from⟨hz,aQ,c',r',e⟩),rfl,q _ (I.bx.fresh (ak _))⟩
 rcases hq with hq|hq
 ·obtain⟨aQ,r',pl,hz⟩:=I.list hq;have hlen:=r'.length;obtain⟨o,ho,hc,n,hd⟩:=pl.isList;exact call_list_seq p (.inl rfl) ho hc hd (λh' c' kp e=>fin aQ r' hz h' c' kp e) (by simp only[List.size_toArray]<;>omega)
 ·obtain⟨aQ,r',pl,hz⟩:=I.tuple hq;have hlen:=r'.length;obtain⟨o,ho,hc,n,hd⟩:=pl;exact call_list_seq p (.inr rfl) ho hc hd (λh' c' kp e=>fin aQ r' hz h' c' kp e) (by simp only[List.size_toArray]<;>omega)
theorem Rw:j9 X (.type "tuple") (λxs H Q=>∃p ys,xs=[.ref p]/\((eQ X.K H p ys/\∀l,H l=none->Q (.ref l) (upd H l (.tup ys)))\/(gC X.K H p ys/\Q (.ref p) H))):=by
 intro pins s Z H xs us Q I r h;obtain⟨p,ys,rfl,h⟩:=h;obtain⟨u,rfl,rx⟩:=vals1 r;cases rx;rcases h with⟨hq,q⟩|⟨hq,q⟩
 ·obtain⟨aQ,r',pl,hz⟩:=I.list hq;have hlen:=r'.length;refine call_tuple_list pl.isList (λh' kp=>?_) (by simp only[List.size_toArray]<;>omega);have I1:Inv X pins Z H { s with heap:=h' }:=I.kept (t':=s.toks) kp;have I2:Inv X pins Z (upd H h'.objs.size (.tup ys)) { s with heap:=h'.push { cls:=.type "tuple",data:=.seq aQ.toArray } } :=
   I1.laid (t':=s.toks) (λb o e=>ai _ e) (ak _) (show j8 X.prog X.w _ _ _ (.tup ys) from⟨hz,aQ,r',B8.new _ _⟩)
  exact⟨.ref h'.objs.size,_,I2,rfl,q _ (I1.bx.fresh (ak _))⟩
 ·obtain⟨aQ,r',pl,hz⟩:=I.tuple hq;exact call_tuple_same pl ⟨.ref p,H,I,rfl,q⟩
def lV(K:PySem.W.Frag)(T:String)(x:V)(H:Hp):Prop:=match x with
 |.str _=>T="str"
 |.int _=>T="int"
 |.ref p=>(T="list"/\∃xs,eQ K H p xs)\/(T="tuple"/\∃o,K.lookup p=some o/\o.cls=.type "tuple"/\o.dict=none) \/
   (T="dict"/\((∃kvs,H p=some (.dK kvs))\/∃kvs,H p=some (.dT kvs)))\/(T="set"/\∃S n,H p=some (.set S n))
 |_=>False
theorem EX{pins:List (Addr×Obj)}{Z:St}{H:Hp}{s:Shared}{T:String}{x:V}{v:Value}(I:Inv X pins Z H s)(r:RelV x v)(ty:lV X.K T x H) :
  s.TypeIs v T/\∀a,v=.ref a->∃ob,s.heap.get? a=some ob/\ob.dict=none:=by
 cases x with
 |str z =>
  obtain⟨t,rfl⟩:=r;cases (show T="str" from ty);exact⟨typeIs_str s z t,λ_ e=>nomatch e⟩
 |int i =>
  obtain⟨t,rfl⟩:=r;cases (show T="int" from ty);exact⟨kP s i t,λ_ e=>nomatch e⟩
 |ref p =>
  cases r;rcases ty with⟨rfl,xs,hq⟩|⟨rfl,o,hk,hc,hd⟩|⟨rfl,hk⟩|⟨rfl,S,n,hk⟩
  ·obtain⟨aQ,_,pl,_⟩:=I.list hq;refine⟨pl.isList.typeIs,λa e=>?_⟩;cases e;obtain⟨o,n,e,c,hd,_⟩:=pl;exact⟨o,e,hd⟩
  ·refine⟨⟨o,I.fu p o hk,hc⟩,λa e=>?_⟩;cases e;exact⟨o,I.fu _ o hk,hd⟩
  ·have z:∃o,s.heap.get? p=some o/\o.ExactDict:=by
    rcases hk with⟨kvs,hk⟩|⟨kvs,hk⟩
    ·obtain⟨_,_,_,_,o,_,_,e,ex,_⟩:=I.bx p _ hk;exact⟨o,e,ex⟩
    ·obtain⟨_,_,_,_,o,_,_,e,ex,_⟩:=I.bx p _ hk;exact⟨o,e,ex⟩
   obtain⟨o,e,ex⟩:=z;refine⟨⟨o,e,ex.1⟩,λa e2=>?_⟩;cases e2;exact⟨o,e,ex.2.1⟩
  ·obtain⟨o,_,_,_,e,ex,_⟩:=I.bx p _ hk;refine⟨⟨o,e,ex.1⟩,λa e2=>?_⟩;cases e2;exact⟨o,e,ex.2.1⟩
 |_=>exact False.elim ty
def QA(K:PySem.W.Frag)(T:String)(r:V->List V->Hp->VK->Prop)(to:TE):TE:=λZ H Q=>to Z H λx H1=>lV K T x H1/\r x [] H1 Q
def GY(K:PySem.W.Frag)(T:String)(r:V->List V->Hp->VK->Prop)(to:TE)(t:TA):TE:=λZ H Q=>to Z H λx H1=>lV K T x H1/\t Z H1 λxs H2=>r x xs H2 Q
variable{o e:Expr}{es:List Expr}{to:TE}{t:TA}{name:Str}{apos eW:Pos}{T id:String}{r:V->List V->Hp->VK->Prop}
theorem MV(pa:PlainAttrs T)(slot:Slot T name id)(iq:typeOf (.builtin id)=pure (.type "method_descriptor"))(hm:lR X id r)(ho:PE X o to)(gX:attributeBase o name X.env (eval o X.env)=eval o X.env:=by rfl)(gW:(apos.endLine==eW.line)=true:=by rfl):PE X (.Call (.Attribute o name apos) [] [] eW) (QA X.K T r to):=by
 intro pins s Z H Q I h;refine wpAny_Call_method0_late gX gW (bS (ho pins s Z H _ I h) λv s1 aX=>?_);obtain⟨x,H1,I1,r1,ty,q1⟩:=aX;obtain⟨h1,h2⟩:=EX I1 r1 ty;exact⟨T,id,pa,slot,iq,h1,h2,Yd rfl (PySem.evalArgs_none (hm pins s1 Z H1 x [] v [] Q I1 r1 .nil q1))⟩
theorem KY(pa:PlainAttrs T)(slot:Slot T name id)(iq:typeOf (.builtin id)=pure (.type "method_descriptor"))(hm:lR X id r)(ho:PE X o to)(ha:PA X (e::es) t)(gX:attributeBase o name X.env (eval o X.env)=eval o X.env:=by rfl)(ow:((backTo eW (starEach (e :: es) X.env)).all (λx=>!x.1) && (backToKw eW (keywordEach [] X.env)).all (λx=>x.1.isSome)
   && decide ((e :: es).length + ([]:List Keyword).length + (if ([]:List Keyword).isEmpty then 0 else 1) < 30))=true:=by rfl)(gW:(apos.endLine==eW.line)=true:=by rfl)(hs:starEach (e::es) X.env=(false,eval e X.env)::starEach es X.env:=by rfl)(fy:(backTo eW (starEach es X.env)).any (·.1)=false:=by rfl) :
  PE X (.Call (.Attribute o name apos) (e::es) [] eW) (GY X.K T r to t):=by
 intro pins s Z H Q I h;refine wpAny_Call_method_late gX ow gW rfl (bS (ho pins s Z H _ I h) λv s1 aX=>?_);obtain⟨x,H1,I1,r1,ty,q1⟩:=aX;obtain⟨h1,h2⟩:=EX I1 r1 ty;refine⟨T,id,pa,slot,iq,h1,h2,?_⟩;have hA:=ha eW pins s1 Z H1 _ I1 q1;rw[hs] at hA ⊢;refine Yd (by show(false||(backTo eW (starEach es X.env)).any (·.1))=false;rw[fy]<;>rfl) (Calls.evalArgs_plain ?_);exact bS hA λus s2 ⟨vs,H2,I2,r2,q2⟩=>hm pins s2 Z H2 x vs v us Q I2 r1 r2 q2
end
def Gq(X:Cx)(id:String)(r:V->List V->Hp->VK->Prop):Prop :=
 ∀(pins:List (Addr×Obj)) (s:Shared) (Z:St) (H:Hp) (x:V) (xs:List V) (v:Value) (us:List Value) (Q:VK),Inv X pins Z H s->RelV x v->Vals xs us->r x xs H Q ->
  wpAny (model X.prog X.w) X.A (call (.builtin id) (v::us)) (EP X pins Z Q) X.xe s
theorem Vals.one{x:V}{us:List Value}(h:Vals [x] us):∃u,us=[u]/\RelV x u:=by
 cases h with
 |cons r h =>
  cases h;exact⟨_,rfl,r⟩
theorem Vals.zero:∀{us:List Value},Vals [] us->us=[]
 |_,.nil=>rfl
theorem Vals.eraseIdx:∀{xs:List V} {us:List Value} (i:Nat),Vals xs us->Vals (xs.eraseIdx i) (us.eraseIdx i)
 |_,_,_,.nil=>.nil
 |_,_,0,.cons _ t=>t
 |_,_,i+1,.cons r t=>.cons r (Vals.eraseIdx i t)
theorem Vals.reverse{xs:List V}{us:List Value}(h:Vals xs us):Vals xs.reverse us.reverse:=by
 induction h with
 |nil=>exact .nil
 |cons r t ih=>rw[fE,fE];exact Vals.append ih (.cons r .nil)
theorem Vals.rep{xs:List V}{us:List Value}(h:Vals xs us):∀k:Nat,Vals (List.replicate k xs).flatten (List.replicate k us).flatten
 |0=>.nil
 |k+1=>by
  rw[bK,bK,cy,cy];exact Vals.append h (Vals.rep h k)
theorem DC{α:Type}:∀(l:List α) (i:Nat),(l.eraseIdx i).length<=l.length
 |[],_=>ak _
 |_::_,0=>fC _
 |_::r,i+1=>Nat.succ_le_succ (DC r i)
theorem foldl_rep(aQ:List Value):∀(k:Nat) (acc:List Value),
  List.foldl (λx1 x2=>x1++x2) acc.toArray (List.replicate k aQ.toArray)=(acc++(List.replicate k aQ).flatten).toArray
 |0,acc=>by simp
 |k+1,acc=>by
  have e:acc.toArray++aQ.toArray=(acc++aQ).toArray:=by simp
  have e2:(acc++aQ)++(List.replicate k aQ).flatten=acc++(List.replicate (k+1) aQ).flatten:=by
   rw[bK,cy,fF]
  rw[<- e2,<- foldl_rep aQ k (acc++aQ),<- e,bK,kS]
section
variable{X:Cx}{pins:List (Addr×Obj)}{Z:St}{H:Hp}{s:Shared}{l b:Addr}{xs ys zs:List V}
theorem Inv.pO{aQ its':List Value}{n:Nat}{f:Array Value->Array Value}{t':Nat}(I:Inv X pins Z H s)(hH:H l=some (.lst xs))(e:s.heap.get? l=some { cls:=.type "list",data:=.seq aQ.toArray n })(hf:f aQ.toArray=its'.toArray)(hv:Vals ys its')(hz:ys.length<=sizeLine) :
  Inv X pins Z (upd H l (.lst ys)) { s with heap:=s.heap.update l (Obj.mapSeq f),toks:=t' }:=by
 have q:=X' e f;rw[hf] at q;refine I.write (x:=l) (e:=l) (by rw[hH];exact trivial) (.inl rfl) (λb' u hb hu=>(bL s.heap (Obj.mapSeq f) (bR hb)).trans hu) ⟨_,q⟩ ?_;exact⟨hz,its',_,hv,q⟩
theorem Inv.Ct{aQ:List Value}{t':Nat}(I:Inv X pins Z H s)(hv:Vals ys aQ)(hz:ys.length<=sizeLine) :
  Inv X pins Z (upd H s.heap.objs.size (.lst ys)) { s with heap:=s.heap.push { cls:=.type "list",data:=.seq aQ.toArray },toks:=t' } :=
 I.laid (λ_ _ q=>ai _ q) (ak _) ⟨hz,aQ,0,hv,ax _ rfl⟩
theorem Inv.fresh(I:Inv X pins Z H s):H s.heap.objs.size=none:=I.bx.fresh (ak _)
theorem Inv.sE(I:Inv X pins Z H s)(hH:H l=some (.lst xs)):xs.length<=sizeLine/\∃(aQ:List Value) (n:Nat),Vals xs aQ/\xs.length=aQ.length/\s.heap.get? l=some { cls:=.type "list",data:=.seq aQ.toArray n }:=by
 obtain⟨z,aQ,n,r,e⟩:=I.bx l _ hH;exact⟨z,aQ,n,r,r.length,e⟩
theorem Sf{n:Nat}(h:n<=sizeLine):Builtin.List.listTooLong n=false:=by
 unfold Builtin.List.listTooLong;exact aC (by omega)
end
section
variable{X:Cx}
def VQ:V->List V->Hp->VK->Prop:=λx vs H Q=>∃l xs y,x=.ref l/\vs=[y]/\H l=some (.lst xs)/\xs.length<sizeLine/\Q .bw (upd H l (.lst (xs++[y])))
theorem Ub:Gq X "list.append" VQ:=by
 intro pins s Z H x vs v us Q I rx rv h;obtain⟨l,xs,y,rfl,rfl,hH,hz,q⟩:=h;cases rx;obtain⟨u,rfl,ru⟩:=rv.one;obtain⟨z,aQ,n,r,hl,e⟩:=I.sE hH;refine ei F.slot_list_append ⟨_,e,rfl⟩ F.entry_list_append (F.args_list_append_2 _ _) (WQ l aQ.toArray n u (by rw[ay];omega)) ⟨e,?_⟩;refine⟨.bw,_,I.pO (its':=aQ++[u]) hH e (by simp) (r.append (.cons ru .nil)) ?_,rfl,q⟩;rw[bc,gM];omega
def Nr:V->List V->Hp->VK->Prop:=λx vs H Q=>∃l xs i k y,x=.ref l/\vs=[.int i]/\H l=some (.lst xs)/\-(2 ^ 63)<=i/\i<2 ^ 63/\seqIndex? i xs.length=some k/\xs[k]?=some y/\Q y (upd H l (.lst (xs.eraseIdx k)))
theorem Sa:Gq X "list.pop" Nr:=by
 intro pins s Z H x vs v us Q I rx rv h;obtain⟨l,xs,i,k,y,rfl,rfl,hH,h1,h2,hk,hy,q⟩:=h;cases rx;obtain⟨u,rfl,ru⟩:=rv.one;obtain⟨t,rfl⟩:=ru;obtain⟨z,aQ,n,r,hl,e⟩:=I.sE hH;obtain⟨w,hw,eZ⟩:=r.get hy;refine ei F.slot_list_pop ⟨_,e,rfl⟩ F.entry_list_pop (F.args_list_pop_2 _ _)
  (MeetsSeq.list_pop_at l aQ.toArray n i t k w (fitsIndex_both h1 h2) (by rw[ay,<- hl];exact hk) (by rw[<- gO];exact hw) (by rw[ay];omega)) ⟨e,?_⟩
 refine⟨y,_,I.pO (its':=aQ.eraseIdx k) hH e ?_ (r.eraseIdx k) ?_,eZ,q⟩
 ·show aQ.toArray.eraseIdxIfInBounds k=(aQ.eraseIdx k).toArray;rw[List.eraseIdxIfInBounds_toArray]
 ·have:=DC xs k;omega
def Qi:R2:=λx y H Q=>∃l b xs zs,x=.ref l/\y=.ref b/\H l=some (.lst xs)/\H b=some (.lst zs)/\xs.length+zs.length<=sizeLine/\∀p,H p=none->Q (.ref p) (upd H p (.lst (xs++zs)))
theorem MI:eI X (binaryOp .Add) Qi:=by
 intro pins s Z H x y v u Q I rx ry h;obtain⟨l,b,xs,zs,rfl,rfl,hH,hB,hz,q⟩:=h;cases rx;cases ry;obtain⟨z,aQ,n,r,hl,e⟩:=I.sE hH;obtain⟨z2,lB,n2,r2,Xl,e2⟩:=I.sE hB;refine PySem.P.add_list e e2 ?_ (by rw[ay,ay];omega);have ea:aQ.toArray++lB.toArray=(aQ++lB).toArray:=by simp
 rw[ea];exact⟨.ref _,_,I.Ct (t':=s.toks) (r.append r2) (by rw[bc];omega),rfl,q _ I.fresh⟩
def Qm:R2:=λx y H Q=>∃l k xs,x=.ref l/\y=.int k/\H l=some (.lst xs)/\-(2 ^ 63)<=k/\k<2 ^ 63/\xs.length*k.toNat<=sizeLine /\
 ∀p,H p=none->Q (.ref p) (upd H p (.lst (List.replicate k.toNat xs).flatten))
theorem len_rep{α:Type}(xs:List α)(k:Nat):(List.replicate k xs).flatten.length=k*xs.length:=by
 induction k with
 |zero=>simp
 |succ k ih=>rw[bK,cy,bc,ih,Nat.succ_mul,Nat.add_comm]
theorem MN:eI X (binaryOp .Mult) Qm:=by
 intro pins s Z H x y v u Q I rx ry h;obtain⟨l,k,xs,rfl,rfl,hH,h1,h2,hz,q⟩:=h;cases rx;obtain⟨t,rfl⟩:=ry;obtain⟨z,aQ,n,r,hl,e⟩:=I.sE hH;have hlen:aQ.toArray.size*k.toNat<=sizeLine:=by rw[ay,<- hl];exact hz
 have wL:¬aQ.toArray.size*k.toNat>(2 ^ 63-1) / 8:=by
  have:(sizeLine:Nat)<=(2 ^ 63-1) / 8:=by decide
  omega
 have wI:¬(!Builtin.List.listFitsIndex k)=true:=by
  rw[fitsIndex_both h1 h2];exact cV
 have rm:¬Builtin.List.listTooLong (aQ.toArray.size*k.toNat)=true:=by
  rw[Sf hlen];exact cV
 have wy:List.foldl (λx1 x2=>x1++x2) #[] (List.replicate (if aQ.toArray.isEmpty=true then 0 else k.toNat) aQ.toArray)=(List.replicate k.toNat aQ).flatten.toArray:=by
  have f0:∀m:Nat,List.foldl (λx1 x2=>x1++x2) #[] (List.replicate m aQ.toArray)=(List.replicate m aQ).flatten.toArray:=λm=>by
   have:=foldl_rep aQ m [];rw[List.nil_append] at this;exact this
  rw[f0];cases aQ with
  |nil=>simp
  |cons a r'=>rw[if_neg (by simp)]
 refine An (T:="list") (U:="int") (by decide) ⟨_,e,rfl⟩ (λs'=>kP s' k t) noFill_list_mul F.fills_int_mul iT repeat_list F.slot_int_index.lookup
  (ei iT (kP s k t) F.entry_int_rmul (F.args_int_rmul_2 _ _) (int___rmul___int_list k t l aQ.toArray n)
   ⟨e,rfl,⟨_,e,rfl⟩,ei F.slot_list_mul ⟨_,e,rfl⟩ F.entry_list_mul (F.args_list_mul_2 _ _) (AutoListH.list___mul___list_int_3 l aQ.toArray n k t wI wL rm) ⟨e,?_⟩⟩)
 rw[wy];exact⟨.ref _,_,I.Ct (t':=s.toks) (r.rep k.toNat) (by rw[len_rep,qb];exact hz),rfl,q _ I.fresh⟩
end
section
variable{prog:Program}{w:World}{A:Around}{E:Value->Shared->Prop}{s:Shared}
end
section
variable{X:Cx}
end
end L2

namespace L2
open PySem PySem.Spec PyProof.Rows
section
variable{κ:Type}[DecidableEq κ]
def E1(kvs:List (κ×V))(k:κ):Option V:=(kvs.find? λkv=>decide (kv.1=k)).map (·.2)
def putK(kvs:List (κ×V))(k:κ)(v:V):List (κ×V) :=
 if(kvs.any λkv=>decide (kv.1=k))=true then kvs.map (λkv=>if kv.1=k then(kv.1,v) else kv) else kvs++[(k,v)]
theorem zi{p:κ×V}{r:List (κ×V)}{k:κ}(e:p.1=k):E1 (p::r) k=some p.2:=by simp[E1,List.find?_cons,e]
theorem zh{p:κ×V}{r:List (κ×V)}{k:κ}(e:¬p.1=k):E1 (p::r) k=E1 r k:=by simp[E1,List.find?_cons,e]
theorem Dh(k:κ):∀kvs:List (κ×V),(kvs.any λkv=>decide (kv.1=k))=(E1 kvs k).isSome
 |[]=>rfl
 |p::r=>by
  rw[fK];by_cases e:p.1=k
  ·simp only[zi e,decide_eq_true e,Bool.true_or,Option.isSome_some]
  ·rw[zh e,aC e,Bool.false_or];exact Dh k r
theorem P1(kvs:List (κ×V))(k:κ)(v:V):(putK kvs k v).length<=kvs.length+1:=by
 unfold putK;split
 ·rw[aj];omega
 ·rw[bc,cK,List.length_nil];omega
theorem B0.K1{o:Option V}{u:Option Value}(r:B0 o u):o.isSome=u.isSome:=by
 cases o with
 |none=>cases u with
  |none=>rfl
  |some _=>exact(show False from r).elim
 |some _=>cases u with
  |none=>exact(show False from r).elim
  |some _=>rfl
theorem B0.getD{o:Option V}{u:Option Value}{d:V}{d':Value}(r:B0 o u)(rd:RelV d d'):RelV (o.getD d) (u.getD d'):=by
 cases o with
 |none=>cases u with
  |none=>exact rd
  |some _=>exact(show False from r).elim
 |some _=>cases u with
  |none=>exact(show False from r).elim
  |some _=>exact r
theorem KV.val{kvs:List (κ×V)}{vs:List (κ×Value)}(r:KV kvs vs)(k:κ):B0 (E1 kvs k) (valueAt vs k):=by
 unfold KV at r
 induction r with
 |nil=>exact True.intro
 |@cons p q ps qs h t ih =>
  obtain⟨h1,h2⟩:=h;by_cases e:p.1=k
  ·have e':q.1=k:=h1.symm.trans e;have b:valueAt (q::qs) k=some q.2:=by simp[valueAt,List.find?_cons,e']
   rw[zi e,b];exact h2
  ·have e':¬q.1=k:=λz=>e (h1.trans z);have b:valueAt (q::qs) k=valueAt qs k:=by simp[valueAt,List.find?_cons,e']
   rw[zh e,b];exact ih
theorem KV.any{kvs:List (κ×V)}{vs:List (κ×Value)}(r:KV kvs vs)(k:κ):(kvs.any λkv=>decide (kv.1=k))=vs.any λkv=>decide (kv.1=k):=by
 unfold KV at r
 induction r with
 |nil=>rfl
 |cons h t ih=>rw[fK,fK,ih,h.1]
theorem KV.zm{kvs:List (κ×V)}{vs:List (κ×Value)}(r:KV kvs vs)(k:κ){y:V}{u:Value}(ry:RelV y u) :
  KV (kvs.map λkv=>if kv.1=k then(kv.1,y) else kv) (vs.map λkv=>if kv.1=k then(kv.1,u) else kv):=by
 unfold KV at r ⊢
 induction r with
 |nil=>exact .nil
 |@cons p q ps qs h t ih =>
  rw[aU,aU];refine .cons ?_ ih;obtain⟨h1,h2⟩:=h;by_cases e:p.1=k
  ·rw[aG e,aG (h1.symm.trans e)];exact⟨h1,ry⟩
  ·rw[aE e,aE (λz=>e (h1.trans z))];exact⟨h1,h2⟩
theorem KV.put{kvs:List (κ×V)}{vs:List (κ×Value)}(r:KV kvs vs)(k:κ){y:V}{u:Value}(ry:RelV y u):KV (putK kvs k y) (stored vs k u):=by
 unfold putK stored;rw[r.any k];by_cases e:(vs.any λkv=>decide (kv.1=k))=true
 ·rw[aG e,aG e];exact r.zm k ry
 ·rw[aE e,aE e];exact Paired.snoc r ⟨rfl,ry⟩
theorem KV.keys{kvs:List (κ×V)}{vs:List (κ×Value)}(r:KV kvs vs):kvs.map (·.1)=vs.map (·.1):=by
 unfold KV at r
 induction r with
 |nil=>rfl
 |cons h t ih=>rw[aU,aU,ih,h.1]
theorem KV.length{kvs:List (κ×V)}{vs:List (κ×Value)}(r:KV kvs vs):kvs.length=vs.length:=kB r
end
theorem T9{P:Program}{w:World}{k:Key}{u:Value}(r:RelV (kV k) u):(l6 P w).is k u=true:=by
 cases k with
 |inl i=>obtain⟨t,e⟩:=(show ∃t,u=Value.int i t from r);subst e;exact QP P w i t
 |inr x=>obtain⟨t,e⟩:=(show ∃t,u=Value.str x t from r);subst e;exact QQ P w x t
theorem DB{P:Program}{w:World}:∀{ks:List Key} {us:List Value},Vals (ks.map kV) us->ItemsAre (l6 P w) ks us
 |[],_,r=>by rw[jA] at r;cases r;exact .nil
 |k::ks,_,r=>by
  rw[aU] at r;cases r with
  |cons h t=>exact .cons (T9 h) (DB t)
noncomputable abbrev KT(H:Hp):List (List Key×V)->List (List Key×Addr×Value)->Prop:=Paired λp q=>p.1=q.1/\H q.2.1=some (.tup (p.1.map kV))/\RelV p.2 q.2.2
theorem KT.val{H:Hp}{kvs:List (List Key×V)}{xs:List (List Key×Addr×Value)}(r:KT H kvs xs)(k:List Key):B0 (E1 kvs k) ((atKey xs k).map (·.2)):=by
 induction r with
 |nil=>exact True.intro
 |@cons p q ps qs h t ih =>
  obtain⟨h1,_,h2⟩:=h;by_cases e:p.1=k
  ·have e':q.1=k:=h1.symm.trans e;have b:atKey (q::qs) k=some q.2:=by simp[atKey,List.find?_cons,e']
   rw[zi e,b];exact h2
  ·have e':¬q.1=k:=λz=>e (h1.trans z);have b:atKey (q::qs) k=atKey qs k:=by simp[atKey,List.find?_cons,e']
   rw[zh e,b];exact ih
theorem KT.zm{H:Hp}{kvs:List (List Key×V)}{xs:List (List Key×Addr×Value)}(r:KT H kvs xs)(k:List Key){y:V}{u:Value}(ry:RelV y u) :
  KT H (kvs.map λkv=>if kv.1=k then(kv.1,y) else kv) (xs.map (putAt k u)):=by
 induction r with
 |nil=>exact .nil
 |@cons p q ps qs h t ih =>
  rw[aU,aU];refine .cons ?_ ih;obtain⟨h1,h2,h3⟩:=h;unfold putAt;by_cases e:p.1=k
  ·rw[aG e,aG (h1.symm.trans e)];exact⟨h1,h2,ry⟩
  ·rw[aE e,aE (λz=>e (h1.trans z))];exact⟨h1,h2,h3⟩
theorem KT.put{H:Hp}{kvs:List (List Key×V)}{xs:List (List Key×Addr×Value)}(r:KT H kvs xs)(k:List Key){b:Addr}{y:V}{u:Value}(hb:H b=some (.tup (k.map kV)))(ry:RelV y u) :
  KT H (putK kvs k y) (storedH xs k b u):=by
 have e:(kvs.any λkv=>decide (kv.1=k))=(atKey xs k).isSome:=by
  rw[Dh,(r.val k).K1,jy]
 unfold putK storedH;rw[e];by_cases q:(atKey xs k).isSome=true
 ·rw[aG q,aG q];exact r.zm k ry
 ·rw[aE q,aE q];exact Paired.snoc r ⟨rfl,hb,ry⟩
theorem KT.keeps{H H':Hp}{kvs:List (List Key×V)}{xs:List (List Key×Addr×Value)}(r:KT H kvs xs)(ht:∀b ys,H b=some (.tup ys)->H' b=some (.tup ys)):KT H' kvs xs :=
 Paired.Cu r λ_ _ z=>⟨z.1,ht _ _ z.2.1,z.2.2⟩
section
variable{P:Program}{w:World}{H:Hp}{h:Heap}{a:Addr}
theorem Gb{u:HO}(ok:ff P w H h)(e:Rd H a u):j8 P w H h a u:=e.ok ok
theorem U6{kvs:List (Key×V)}(ok:ff P w H h)(e:Rd H a (.dK kvs)):kvs.length<=sizeLine/\(a==sysModules)=false/\∃vs,KV kvs vs/\h.DictOf (l6 P w) a vs :=
 show j8 P w H h a (.dK kvs) from Gb ok e
theorem FU{kvs:List (Key×V)}(ok:ff P w H h)(e:H a=some (.dK kvs)):kvs.length<=sizeLine/\(a==sysModules)=false/\∃vs,KV kvs vs/\h.DictOf (l6 P w) a vs:=U6 ok (.inl e)
theorem Q6{ks:List Key}(ok:ff P w H h)(e:H a=some (.tup (ks.map kV))):(tupleKind (l6 P w)).is h ks a:=by
 obtain⟨_,aQ,r,o,h1,h2,⟨n,h3⟩,_⟩:=(show j8 P w H h a (.tup (ks.map kV)) from ok a _ e)
 exact⟨o,aQ.toArray,n,h1,h2,h3,by simpa using DB r⟩
theorem pU{kvs:List (List Key×V)}(ok:ff P w H h)(e:Rd H a (.dT kvs)):kvs.length<=sizeLine/\(a==sysModules)=false /\
  ∃xs,KT H kvs xs/\h.DictOfH (tupleKind (l6 P w)) a xs:=by
 obtain⟨z,y,xs,r,o,es,ep,h1,h2,h3,h4,h5⟩:=(show j8 P w H h a (.dT kvs) from Gb ok e)
 refine⟨z,y,xs,r,o,es,ep,h1,h2,h3,h4,λx hx=>?_,h5⟩;have all:∀{l:List (List Key×V)} {m:List (List Key×Addr×Value)},KT H l m->∀x∈m,(tupleKind (l6 P w)).is h x.1 x.2.1:=by
  intro l m q
  induction q with
  |nil=>intro x hx;exact nomatch hx
  |@cons p q ps qs hq t ih =>
   intro x hx;rcases az.mp hx with e|hx
   ·subst e;exact Q6 ok (by rw[<- hq.1];exact hq.2.1)
   ·exact ih x hx
 exact all r x hx
theorem Kj{kvs:List (List Key×V)}(ok:ff P w H h)(e:H a=some (.dT kvs)):kvs.length<=sizeLine/\(a==sysModules)=false /\
  ∃xs,KT H kvs xs/\h.DictOfH (tupleKind (l6 P w)) a xs:=pU ok (.inl e)
end
def K3(H:Hp)(a:Addr)(y:V)(r:Option V):Prop :=
 (∃kvs k,Rd H a (.dK kvs)/\y=kV k/\r=E1 kvs k)\/∃kvs k b,Rd H a (.dT kvs)/\y=.ref b/\H b=some (.tup (k.map kV))/\r=E1 kvs k
def vb(H:Hp)(a:Addr)(y v:V)(H':Hp):Prop :=
 (∃kvs k,H a=some (.dK kvs)/\y=kV k/\kvs.length<sizeLine/\H'=upd H a (.dK (putK kvs k v))) \/
 ∃kvs k b,H a=some (.dT kvs)/\y=.ref b/\H b=some (.tup (k.map kV))/\kvs.length<sizeLine/\H'=upd H a (.dT (putK kvs k v))
theorem K3.k{H:Hp}{a:Addr}{kvs:List (Key×V)}{k:Key}(e:H a=some (.dK kvs)):K3 H a (kV k) (E1 kvs k):=.inl ⟨kvs,k,.inl e,rfl,rfl⟩
theorem vb.k{H:Hp}{a:Addr}{kvs:List (Key×V)}{k:Key}{v:V}(e:H a=some (.dK kvs))(hl:kvs.length<sizeLine):vb H a (kV k) v (upd H a (.dK (putK kvs k v))):=.inl ⟨kvs,k,e,rfl,hl,rfl⟩
section
variable{X:Cx}{pins:List (Addr×Obj)}{Z:St}{H:Hp}{s:Shared}{a:Addr}{y v:V}{u r:Value}{o:Option V}{A:Around}{E:Value->Shared->Prop}
theorem Inv.big(I:Inv X pins Z H s):sysModules<s.heap.objs.size:=by
 have h:mainGlobals<s.heap.objs.size:=(I.mod.glob.keeps I.bk).lt;exact cu (by decide) h
theorem Tw{Q:Value->Shared->Prop}(hu:A.units+1<cLine)(I:Inv X pins Z H s)(g:K3 H a y (some v))(ry:RelV y u)(h:∀w' s',Inv X pins Z H s'->RelV v w'->Q w' s') :
  wpAny (model X.prog X.w) A (getItem (.ref a) u) Q E s:=by
 rcases g with⟨kvs,k,e,ey,l⟩|⟨kvs,k,b,e,ey,eb,l⟩
 ·subst ey;obtain⟨z,hd,vs,rel,dd⟩:=U6 I.bx e;obtain⟨w',hw,eZ⟩:=B0.some_of (v:=v) (o:=valueAt vs k) (by rw[l];exact rel.val k);exact wpAny_getItem_of (T9 ry) dd.mapOf hw (h w' _ (I.tok _) eZ)
 ·subst ey;cases (show u=Value.ref b from ry);obtain⟨z,hd,xs,rel,dd⟩:=pU I.bx e;obtain⟨w',hw,eZ⟩:=B0.some_of (v:=v) (o:=(atKey xs k).map (·.2)) (by rw[l];exact rel.val k);obtain⟨p,hp,qZ⟩:=ae.mp hw;refine wpAny_getItem_heap (eh hu) (Q6 I.bx eb) dd hp ?_;rw[qZ];exact h w' _ (I.tok _) eZ
theorem Po{Q:Value->Shared->Prop}(hu:A.units+1<cLine)(I:Inv X pins Z H s)(g:K3 H a y o)(ry:RelV y u)(h:∀s',Inv X pins Z H s'->Q (.bool o.isSome) s') :
  wpAny (model X.prog X.w) A (compareOp .In u (.ref a)) Q E s:=by
 rcases g with⟨kvs,k,e,ey,l⟩|⟨kvs,k,b,e,ey,eb,l⟩
 ·subst ey;obtain⟨z,hd,vs,rel,dd⟩:=U6 I.bx e;refine wpAny_in_of (T9 ry) hd dd.mapOf ?_;rw[<- (rel.val k).K1,<- l];exact h _ (I.tok _)
 ·subst ey;cases (show u=Value.ref b from ry);obtain⟨z,hd,xs,rel,dd⟩:=pU I.bx e;refine wpAny_in_heap (eh hu) (Q6 I.bx eb) hd dd ?_;have q:=(rel.val k).K1;rw[jy] at q;rw[<- q,<- l];exact h _ (I.tok _)
theorem Oy{Q:Value->Shared->Prop}(hu:A.units+1<cLine)(I:Inv X pins Z H s)(g:K3 H a y o)(ry:RelV y u)(h:∀s',Inv X pins Z H s'->Q (.bool (!o.isSome)) s') :
  wpAny (model X.prog X.w) A (compareOp .NotIn u (.ref a)) Q E s:=by
 rcases g with⟨kvs,k,e,ey,l⟩|⟨kvs,k,b,e,ey,eb,l⟩
 ·subst ey;obtain⟨z,hd,vs,rel,dd⟩:=U6 I.bx e;refine wpAny_notIn_of (T9 ry) hd dd.mapOf ?_;rw[<- (rel.val k).K1,<- l];exact h _ (I.tok _)
 ·subst ey;cases (show u=Value.ref b from ry);obtain⟨z,hd,xs,rel,dd⟩:=pU I.bx e;refine wpAny_notIn_heap (eh hu) (Q6 I.bx eb) hd dd ?_;have q:=(rel.val k).K1;rw[jy] at q;rw[<- q,<- l];exact h _ (I.tok _)
theorem yL{h':Heap}{t':Nat}{ob:HO}(I:Inv X pins Z H s)(mu:tf (H a))(hs:Heap.SameBut a s.heap h')(he:∃q,h'.get? a=some q)(new:j8 X.prog X.w (upd H a ob) h' a ob) :
  Inv X pins Z (upd H a ob) { s with heap:=h',toks:=t' } :=
 I.write (x:=a) (e:=a) mu (.inl rfl) (λb q hb z=>(hs.2 b hb).trans z) he new
theorem EC{P:Program}{w:World}{H':Hp}{h':Heap}{kvs:List (Key×V)}{vs:List (Key×Value)}(z:kvs.length<=sizeLine)(hd:(a==sysModules)=false)(rel:KV kvs vs)(dd:h'.DictOf (l6 P w) a vs) :
  j8 P w H' h' a (.dK kvs):=⟨z,hd,vs,rel,dd⟩
theorem Tx{H':Hp}{Q:Unit->Shared->Prop}(hu:A.units+1<cLine)(I:Inv X pins Z H s)(g:vb H a y v H')(ry:RelV y u)(rv:RelV v r)(h:∀s',Inv X pins Z H' s'->Q () s') :
  wpAny (model X.prog X.w) A (setItem (.ref a) u r) Q E s:=by
 rcases g with⟨kvs,k,e,ey,l,eH⟩|⟨kvs,k,b,e,ey,eb,l,eH⟩
 ·subst ey eH;obtain⟨z,hd,vs,rel,dd⟩:=FU I.bx e;have hz:vs.length<=sizeLine:=by rw[<- rel.length];exact z
  have hl:(putK kvs k v).length<=sizeLine:=by have:=P1 kvs k v;omega
  refine wpAny_setItem_pairs (hsz:=hz) (T9 ry) dd λh' oN hs=>h _ ?_;have he:∃q,h'.get? a=some q:=let ⟨q,_,_,hq,_⟩:=oN;⟨q,hq⟩
  exact yL I (by rw[e];exact True.intro) hs he (EC hl hd (rel.put k rv) oN)
 ·subst ey eH;cases (show u=Value.ref b from ry);obtain⟨z,hd,xs,rel,dd⟩:=Kj I.bx e;have hz:xs.length<=sizeLine:=by rw[<- kB rel];exact z
  have hl:(putK kvs k v).length<=sizeLine:=by have:=P1 kvs k v;omega
  refine wpAny_setItem_heap (hsz:=hz) (eh hu) (Q6 I.bx eb) dd λh' oN hs=>h _ ?_;obtain⟨q,es,ep,hq,h2,h3,h4,_,h5⟩:=oN;refine yL I (by rw[e];exact True.intro) hs ⟨q,hq⟩ ⟨hl,hd,_,(rel.put k eb rv).keeps λc ys ec=>?_,q,es,ep,hq,h2,h3,h4,h5⟩;rw[f9 (KL ec e (λz=>nomatch z))];exact ec
end
section
variable{X:Cx}{pins:List (Addr×Obj)}{Z:St}{H:Hp}{s:Shared}{a:Addr}{kvs:List (Key×V)}{k:Key}{u:Value}{A:Around}{E:Value->Shared->Prop}
theorem Kh{Q:Value->Shared->Prop}(I:Inv X pins Z H s)(e:Rd H a (.dK kvs))(h:∀t s',Inv X pins Z H s'->Q (.int kvs.length t) s'):wpAny (model X.prog X.w) A (call (.builtin "len") [.ref a]) Q E s:=by
 obtain⟨z,hd,vs,rel,dd⟩:=U6 I.bx e;refine call_len_dict hd dd (by rw[<- rel.length];rw[jx] at z;omega) ?_;rw[<- rel.length];exact h _ _ (I.tok _)
end
theorem QG{X:Cx}{pins:List (Addr×Obj)}{Z:St}{H:Hp}{s:Shared}{a:Addr}{y:V}{o:Option V}(I:Inv X pins Z H s)(g:K3 H a y o):s.TypeIs (.ref a) "dict":=by
 rcases g with⟨kvs,k,e,_,_⟩|⟨kvs,k,b,e,_,_,_⟩
 ·obtain⟨_,_,vs,_,dd⟩:=U6 I.bx e;exact dd.typeIs
 ·obtain⟨_,_,xs,_,dd⟩:=pU I.bx e;exact dd.typeIs
section
variable{X:Cx}{o i e value:Expr}{pos pos' vG:Pos}{td ty tv:TE}
end
theorem CN{P:Program}{w:World}{H:Hp}(h:Heap)(hb:sysModules<h.objs.size):j8 P w H (h.push { cls:=.type "dict",data:=.dict #[] }) h.objs.size (.dK []) :=
 ⟨cQ _,cI.mpr (bR (aK hb)),[],.nil,Heap.DictOf.new h⟩
def NW:TE:=λ_ H Q=>∀p,H p=none->Q (.ref p) (upd H p (.dK []))
section
variable{X:Cx}{pos:Pos}
theorem Sm:PE X (.Dict [] [] pos) NW:=λpins s Z H Q I h =>
 wpAny_Dict_empty ⟨.ref s.heap.objs.size,_,I.laid (a:=s.heap.objs.size) (o:=.dK []) (t':=s.toks) (λ_ _ q=>ai _ q) (ak _) (CN s.heap I.big),rfl,h _ (I.bx.fresh (ak _))⟩
end
def uP:List (TE×TE)->St->Hp->(List (V×V)->Hp->Prop)->Prop
 |[],_,H,Q=>Q [] H
 |(tk,tv)::r,Z,H,Q=>tk Z H λx H1=>tv Z H1 λy H2=>uP r Z H2 λps H3=>Q ((x,y)::ps) H3
noncomputable abbrev VV:List (V×V)->List (Value×Value)->Prop:=Paired λp q=>RelV p.1 q.1/\RelV p.2 q.2
def sY(X:Cx)(pos:Pos)(keys:List (Option Expr))(values:List Expr)(gk:List (TE×TE)):Prop :=
 ∀(pins:List (Addr×Obj)) (s:Shared) (Z:St) (H:Hp) (Q:List (V×V)->Hp->Prop),Inv X pins Z H s->uP gk Z H Q ->
  wpAny (model X.prog X.w) X.A (evalPairs (pairTrees keys values X.env pos)) (λvs s'=>∃ps H',Inv X pins Z H' s'/\VV ps vs/\Q ps H') X.xe s
theorem VH{X:Cx}{pos:Pos}:sY X pos [] [] []:=λpins s Z H Q I h=>pairTrees_nil_walk ⟨[],H,I,.nil,h⟩
theorem Sv{X:Cx}{pos:Pos}{k v:Expr}{ks:List (Option Expr)}{vs:List Expr}{tk tv:TE}{gk:List (TE×TE)}(hk:PE X k tk)(hv:PE X v tv)(hr:sY X pos ks vs gk) :
  sY X pos (some k::ks) (v::vs) ((tk,tv)::gk):=λpins s Z H Q I h =>
 pairTrees_cons_walk (bS (hk pins s Z H _ I h) λu s1 ⟨x,H1,I1,rx,q1⟩=>bS (hv pins s1 Z H1 _ I1 q1) λw2 s2 ⟨y,H2,I2,ry,q2⟩ =>
  bS (hr pins s2 Z H2 _ I2 q2) λws s3 ⟨ps,H3,I3,rel,q3⟩=>⟨(x,y) :: ps,H3,I3,.cons ⟨rx,ry⟩ rel,q3⟩)
def M7(kvs more:List (Key×V)):List (Key×V):=more.foldl (λacc kv=>putK acc kv.1 kv.2) kvs
theorem KV.merge:∀{more:List (Key×V)} {rs:List (Key×Value)} {kvs:List (Key×V)} {vs:List (Key×Value)},KV more rs->KV kvs vs->KV (M7 kvs more) (merged vs rs):=by
 intro more rs kvs vs r;unfold KV at r
 induction r generalizing kvs vs with
 |nil=>intro q;exact q
 |@cons p q ps qs h t ih =>
  intro r0;have e:KV (putK kvs p.1 p.2) (stored vs q.1 q.2):=by
   have:=r0.put p.1 h.2;rw[<- h.1];exact this
  exact ih e
theorem W3:∀(more kvs:List (Key×V)),(M7 kvs more).length<=kvs.length+more.length
 |[],kvs=>by show kvs.length<=kvs.length+0;omega
 |p::r,kvs=>by
  have h1:=W3 r (putK kvs p.1 p.2);have h2:=P1 kvs p.1 p.2;show(M7 (putK kvs p.1 p.2) r).length<=_;rw[cK];omega
theorem DT{P:Program}{w:World}:∀{kvs:List (Key×V)} {ws:List (Value×Value)},VV (kvs.map λkv=>(kV kv.1,kv.2)) ws->∃rs,Carries (l6 P w) ws rs/\KV kvs rs
 |[],_,r=>by rw[jA] at r;cases r;exact⟨[],True.intro,.nil⟩
 |p::kvs,_,r=>by
  rw[aU] at r;cases r with
  |@cons a b as bs h t =>
   obtain⟨rs,c,q⟩:=DT (P:=P) (w:=w) t;obtain⟨b1,b2⟩:=b;exact⟨(p.1,b2)::rs,⟨T9 h.1,rfl,c⟩,.cons ⟨rfl,h.2⟩ q⟩
def Lz(gk:List (TE×TE)):TE:=λZ H Q=>∀p,H p=none->uP gk Z (upd H p (.dK [])) λps H2=>H2 p=some (.dK [])/\∃kvs:List (Key×V),ps=kvs.map (λkv=>(kV kv.1,kv.2))/\kvs.length<=15/\Q (.ref p) (upd H2 p (.dK (M7 [] kvs)))
theorem VB{X:Cx}{pos:Pos}{keys:List (Option Expr)}{values:List Expr}{gk:List (TE×TE)}(h:sY X pos keys values gk)(oA:keys.all (·.isSome)=true)(hl:keys.length=values.length)(h0:keys≠[])(ug:keys.length<=15):PE X (.Dict keys values pos) (Lz gk):=by
 intro pins s Z H Q I q;have hn:=I.bx.fresh (ak s.heap.objs.size);have I1:=I.laid (a:=s.heap.objs.size) (o:=.dK []) (h':=s.heap.push { cls:=.type "dict",data:=.dict #[] }) (t':=s.toks) (λ_ _ q=>ai _ q) (ak _) (CN s.heap I.big);refine wpAny_Dict_walk (knd:=l6 X.prog X.w) oA hl h0 ug (bS (h pins _ Z _ _ I1 (q _ hn)) λws s2 aX=>?_);obtain⟨ps,H2,I2,rel,e,kvs,ep,lk,q2⟩:=aX;subst ep;obtain⟨rs,c,rk⟩:=DT (P:=X.prog) (w:=X.w) rel;obtain⟨z,hd,WY,r0,dd⟩:=FU I2.bx e;cases r0;refine⟨rs,c,dd,λh' oN hs=>⟨.ref s.heap.objs.size,_,?_,rfl,q2⟩⟩;have hz:(M7 [] kvs).length<=sizeLine:=by
  have h1:=W3 kvs [];rw[List.length_nil] at h1;rw[jx];omega
 have he:∃q,h'.get? s.heap.objs.size=some q:=let ⟨q,_,_,hq,_⟩:=oN;⟨q,hq⟩
 exact yL I2 (by rw[e];exact True.intro) hs he (EC hz hd (rk.merge .nil) oN)
section
variable{X:Cx}{pins:List (Addr×Obj)}{Z:St}{H:Hp}{s:Shared}{a:Addr}{y d:V}{u r:Value}{o:Option V}{A:Around}{E:Value->Shared->Prop}
theorem Mc{Q:Value->Shared->Prop}(hu:A.units+1<cLine)(I:Inv X pins Z H s)(g:K3 H a y o)(ry:RelV y u)(rd:RelV d r)(h:∀w' s',Inv X pins Z H s'->RelV (o.getD d) w'->Q w' s') :
  wpAny (model X.prog X.w) A (call (.builtin "dict.get") [.ref a,u,r]) Q E s:=by
 rcases g with⟨kvs,k,e,ey,l⟩|⟨kvs,k,b,e,ey,eb,l⟩
 ·subst ey;obtain⟨z,hd,vs,rel,dd⟩:=U6 I.bx e;refine call_meetsIn gK dd.typeIs qa (oY _ _ _) (meets_dict_get_default (l6 X.prog X.w) a (T9 ry) hd r) ⟨_,dd.mapOf,h _ _ (I.tok _) ?_⟩;rw[l];exact(rel.val k).getD rd
 ·subst ey;cases (show u=Value.ref b from ry);obtain⟨z,hd,xs,rel,dd⟩:=pU I.bx e;refine call_meetsIn gK dd.typeIs qa (oY _ _ _) (meetsH_dict_get_default (tupleKind (l6 X.prog X.w)) a b hd r) ⟨eh hu,k,xs,Q6 I.bx eb,dd,h _ _ (I.tok _) ?_⟩;rw[l];exact(rel.val k).getD rd
end
section
variable{X:Cx}{o e f:Expr}{apos eW:Pos}{td ty tx:TE}
end
section
variable{X:Cx}{pins:List (Addr×Obj)}{Z:St}{H:Hp}{s:Shared}{a:Addr}{kvs:List (Key×V)}{A:Around}{E:Value->Shared->Prop}
end
section
variable{X:Cx}{pins:List (Addr×Obj)}{Z:St}{H:Hp}{s:Shared}{a:Addr}{y:V}{u:Value}{A:Around}{E:Value->Shared->Prop}
end
end L2

namespace Gz
open PySem PySem.W PySem.Calls PyProof.Rows
theorem RJ{P:Params}{h:Heap}:∀(ns:List Int) (vs:List Value),WellAll P h vs (ns.map WData.int)->IntsAre vs ns:=by
 intro ns
 induction ns with
 |nil =>
  intro vs w;rw[jA] at w;cases w;exact .nil
 |cons n ns ih =>
  intro vs w;rw[aU] at w;cases w with
  |cons a b =>
   cases a;exact .cons _ _ (ih _ b)
theorem Uv{l:OpenLaw}{n:Nat}(hn:l.most=some n){P:Params}{h:Heap}{args:List WData}{vals:List Value}(mF:l.row.toRowW.claim.pre args=true)(wk:WellAll P h vals args) :
  ∃a vs ns,vals=[Value.ref a]/\args=[WData.list (ns.map WData.int)]/\h.get? a=some { cls:=.type "list",data:=.seq vs.toArray }/\IntsAre vs ns/\ns.length<=n:=by
 have iH:WShape.hasAll [] args [.list .int]=true:=(pre_splitW mF).1;have hc:l.pre.holds [] { args:=args }=true:=(pre_splitW mF).2;obtain⟨d,r,rfl,h1,h2⟩:=hasAllW_cons iH;obtain rfl:=hasAllW_nil h2;obtain⟨xs,rfl,h3⟩:=hasW_list h1;obtain⟨ns,rfl⟩:=items_int h3;have hlen:ns.length<=n:=by
  unfold OpenLaw.pre at hc;have h4:(WTm.not (.lt (.lit (.int (n:Int))) (.len (.arg 0)))).holds [] { args:=[.list (ns.map .int)] }=true:=by
   have h4:=(holds_andW hc).1;rw[hn] at h4;exact h4
  have h5:=condW_of h4 (w_not (w_lt w_lit (w_len_list (w_arg rfl))));rw[aj] at h5;refine kd λq=>?_;have q':(n:Int)<((ns.length:Nat):Int):=by omega
  first
   |(rw[aM q'] at h5;exact absurd h5 (by decide))
   |(simp at h5;omega)
 cases wk with
 |cons w1 w2 =>
  cases w2;cases w1 with
  |list ho oA=>exact⟨_,_,ns,rfl,rfl,ho,RJ ns _ oA,hlen⟩
theorem Us(l:OpenLaw)(args:List WData):l.row.toRowW.claim.post args (.bool true) args=true :=
 postW_of (r:=l.row.toRowW) (X:=(true==true))
  (show WShape.has [] (.bool true) .bool=true by first|rfl|decide|simp[WShape.has,WShape.arms,WShape.armsAll])
  (show(WTm.eq .res (.lit (.bool true))).value [] { args:=args,res:=some (.bool true),after:=args }=some (.bool (true==true)) from w_eq_bool (w_res rfl) w_lit) rfl
theorem QD{l:OpenLaw}{n:Nat}{q:Program}{loose:List Str}{XP:(Str->Option Value)->Heap->Prop}{YP:World->Heap->Prop}{d:DefRec}(hn:l.most=some n)(rD:d.params.defaults=[])(call:∀ (w:World) (cE bD:Shared) (mg mb:Str->Option Value) (fa:Addr) (o:Obj) (pm cd doc:Value) (a:Addr) (vs:List Value) (ns:List Int),
   Ground q loose [] XP w cE mg mb bD.heap->YP w bD.heap ->
   bD.heap.get? fa=some o->o.data=.func (docDef d.name d.params d.body d.scope pm cd doc)->bD.heap.CodeRec cd d.name->mg d.name=some (.ref fa) ->
   bD.heap.get? a=some { cls:=.type "list",data:=.seq vs.toArray }->IntsAre vs ns->ns.length<=n->bD.gens=#[] ->
   codeAny (model l.prog w) callerA (.call (.ref fa) ⟨[.ref a],[]⟩) (λr s'=>r=.ok (.ret (.bool true))/\OldK bD.heap s'.heap/\s'.os=bD.os/\AllBare s'.gens) bD) :
  WalkO q loose XP YP l.row.toRowW d [] (λf vs=>PySem.call f vs):=by
 intro w cE bD mg mb G Y fa o pm cd doc dV kV ho hd kq hD hmg hg args vals as mF HR Bj wk Bl;obtain rfl:dV=.none:=Dflts.none hD rD;obtain rfl:kV=.none:=Dflts.noKw hD;obtain⟨a,vs,ns,rfl,rfl,gU,hints,hlen⟩:=Uv hn mF wk;refine enter_call (fI (call w cE bD mg mb fa o pm cd doc a vs ns G Y ho (fd_plain hd) kq hmg gU hints hlen hg) λr s' hq=>?_);obtain⟨rfl,h2,h3,h4⟩:=hq;exact⟨.inl ⟨.bool true,.bool true,[],rfl,λ_=>rfl,.bool true,Us l _,λ_=>⟨List.Pairwise.nil,λ_ hm=>(nomatch hm)⟩⟩,h2,h3,h4⟩
section
variable{prog:Program}{w:World}{A:Around}{E:Value->Shared->Prop}{s:Shared}{K:Frag}
end
end Gz
namespace L2
open PySem PySem.Spec PyProof.Rows
theorem DO:∀{vs:List Value} {ns:List Int},IntsAre vs ns->Vals (ns.map V.int) vs
 |_,_,.nil=>.nil
 |_,_,.cons n t h=>.cons ⟨t,rfl⟩ (DO h)
def vc(H:Hp):Prop:=∀b,H b=none\/∃o xs,H b=some (.iL o (.lst xs))
theorem RT{P:Program}{w:World}{K:PySem.W.Frag}{mg mb:Str->Option Value}{CX:lT}{k:Nat}{fa a:Addr}{fd:FuncData}{x:Str}{sp:Sp}{bD:Shared}{vs:List Value}{ns:List Int}(KX:K.In bD.heap)(ou:bD.heap.Ns mainGlobals mg)(hb:bD.heap.Ns builtinsNs mb)(wN:∀x:Str,x≠"__name__"->mb x=bootBuiltins x)(wC:bD.heap.NoLimit)(hg:bD.gens=#[])(ha:bD.heap.get? a=some { cls:=.type "list",data:=.seq vs.toArray })(hi:IntsAre vs ns)(hl:ns.length<=sizeLine)(hr:m9 k callerA)(F:∀base:Heap,K.In base->base.Ns mainGlobals mg->gg P w K mg base CX k fa fd [x] sp)(rH:∀(s:Shared) (u:Value),BindsTo s fd ⟨[u],[]⟩ [(x,u)])(pq:∀H:Hp,vc H->eQ K H a (ns.map V.int)->sp [.ref a] H (λv _=>v=.bl true) λ_ _ _=>False)(wY:∀H e s',CX [] H bD (λ_ _ _=>False) e s'->False) :
  codeAny (model P w) callerA (.call (.ref fa) ⟨[.ref a],[]⟩) (λr s'=>r=.ok (.ret (.bool true))/\OldK bD.heap s'.heap/\s'.os=bD.os/\AllBare s'.gens) bD:=by
 have rv:=DO hi;have vY:=hi.length;have core:∀H:Hp,vc H->eQ K H a (ns.map V.int)->ff P w H bD.heap->(∀b,H b≠none->b=a)->(H a≠none->K.lookup a=none) ->
   codeAny (model P w) callerA (.call (.ref fa) ⟨[.ref a],[]⟩) (λr s'=>r=.ok (.ret (.bool true))/\OldK bD.heap s'.heap/\s'.os=bD.os/\AllBare s'.gens) bD:=by
  intro H hO hS bx hA hK;have L8:∀{b:Addr} {o:Obj},bD.heap.get? b=some o->H b=none->(U3 bD.heap H).get? b=some o:=λe n=>WK e n;have qE:∀{b:Addr} {o:Obj} {es:Array DictEntry} {ep:Nat},bD.heap.get? b=some o->o.data=.dict es ep->H b=none:=λ{b o es ep} e d=>by
   cases q:H b with
   |none=>rfl
   |some u =>
    have e':b=a:=hA b (by rw[q];simp);subst e';rw[ha] at e;cases e;have d':Data.seq vs.toArray _=Data.dict es ep:=d;cases d'
  have tS:∀{b:Addr} {m:Str->Option Value},bD.heap.Ns b m->(U3 bD.heap H).Ns b m:=λ{b m} ⟨o,es,ep,e,d,r⟩=>⟨o,es,ep,L8 e (qE e d),d,r⟩
  have Bz:K.In (U3 bD.heap H):=λb o e=>L8 (KX b o e) (by
   cases q:H b with
   |none=>rfl
   |some u =>
    have e':b=a:=hA b (by rw[q];simp);subst e';rw [hK (by rw [q];simp)] at e;cases e)
  have hM:Mod K mg (U3 bD.heap H):=⟨Bz,tS ou,⟨mb,tS hb,wN⟩,let ⟨mc,h1,h2⟩:=wC;⟨mc,tS h1,h2⟩⟩
  have e0:oS P w K mg (U3 bD.heap H) callerA [] bD H:=⟨rfl,hM,λb o e=>OU e,Nat.le_of_eq (TJ _ _),trivial,λb hb=>absurd (show b∈([]:List Addr) from hb) (by simp),bx,.of_eq hg⟩
  refine fI ((F _ Bz (tS ou)).run callerA [] bD H ⟨[.ref a],[]⟩ [.ref a] [.ref a] _ _ hr e0 (rH bD (.ref a)) (.cons rfl .nil) (pq H hO hS)) λr s' h=>?_;cases r with
  |error e=>exact(wY H e s' h).elim
  |ok fl =>
   cases fl with
   |next=>exact False.elim h
   |brk=>exact False.elim h
   |cont=>exact False.elim h
   |ret u =>
    obtain⟨v,H',os,bare,un,wt,r',q⟩:=h;have q':v=.bl true:=q;subst q';obtain rfl:u=Value.bool true:=r';refine⟨rfl,OldK.of_keep λb o e=>?_,os,bare⟩;cases q:H b with
    |none=>exact un.keep b o e q (by intro z;exact absurd (show b∈([]:List Addr) from z) (by simp)) (by simp)
    |some u =>
     rcases hO b with z|⟨ob,xs,z⟩
     ·rw[q] at z;cases z
     ·have z2:=un.fL b ob _ z;obtain⟨e1,_⟩:=bx b _ z;obtain⟨e2,_⟩:=wt b _ z2;rw[e] at e1;cases e1;exact e2
 cases hk:K.lookup a with
 |some o =>
  have e:=KX a o hk;rw[ha] at e;cases e;refine core (λ_=>none) (λ_=>.inl rfl) (.inr ⟨_,vs.toArray,_,hk,rfl,rfl,rfl,by rw[ay,vY];exact hl,by simpa using rv⟩) (λb u z=>by have z':(none:Option HO)=some u:=z;cases z') (λb z=>absurd rfl z) λz=>absurd rfl z
 |none =>
  refine core (λb=>if b=a then some (.iL { cls:=.type "list",data:=.seq vs.toArray } (.lst (ns.map V.int))) else none) (λb=>?_) (.inl (.inr ⟨{ cls:=.type "list",data:=.seq vs.toArray },aG rfl⟩)) (λb u z=>?_) (λb z=>?_) λ_=>hk
  ·by_cases hb:b=a
   ·exact .inr ⟨_,_,aG hb⟩
   ·exact .inl (aE hb)
  ·by_cases hb:b=a
   ·have z':=(aG hb).symm.trans z;cases z';subst hb;exact⟨ha,by rw[aj];exact hl,vs,_,rv,ha⟩
   ·have z':=(aE hb).symm.trans z;cases z'
  ·by_cases hb:b=a
   ·exact hb
   ·exact absurd (aE hb) z
theorem Wt{l:PySem.W.OpenLaw}{n k:Nat}{q:Program}{loose:List Str}{XP:(Str->Option Value)->Heap->Prop}{YP:World->Heap->Prop}{d:DefRec}{K:Params->PySem.W.Frag}{CX:World->lT}{sp:World->Sp}{x:Str}(hn:l.most=some n)(ng:n<=sizeLine)(rD:d.params.defaults=[])(hr:m9 k callerA)(hY:∀(w:World) (h:Heap),YP w h->(K w.params).In h)(F:∀ (w:World) (mg:Str->Option Value) (fa:Addr) (h:Heap),(K w.params).In h->h.Ns mainGlobals mg->mg d.name=some (.ref fa) ->
   ∃fd:FuncData,(∀(s:Shared) (u:Value),BindsTo s fd ⟨[u],[]⟩ [(x,u)]) /\
    ∀ base:Heap,(K w.params).In base->base.Ns mainGlobals mg->gg l.prog w (K w.params) mg base (CX w) k fa fd [x] (sp w))(pq:∀(w:World) (H:Hp) (a:Addr) (ns:List Int),ns.length<=n->vc H->eQ (K w.params) H a (ns.map V.int)->sp w [.ref a] H (λv _=>v=.bl true) λ_ _ _=>False)(wY:∀(w:World) (H:Hp) (s:Shared) (e:Value) (s':Shared),CX w [] H s (λ_ _ _=>False) e s'->False) :
  PySem.W.WalkO q loose XP YP l.row.toRowW d [] (λf vs=>PySem.call f vs):=by
 refine Gz.QD hn rD λw cE bD mg mb fa o pm cd doc a vs ns G Y ho hd kq hmg gU hints hlen hg=>?_;have KX:=hY w _ Y;obtain⟨fd,hb,hF⟩:=F w mg fa _ KX G.T.g hmg;exact RT KX G.T.g G.T.b G.T.builtins G.T.nolimit hg gU hints (aO hlen ng) hr hF hb (λH hO hS=>pq w H a ns hlen hO hS) λH e s'=>wY w H bD e s'
def t8(s:Stmt):Arguments:=match s with
 |.FunctionDef _ a _ _ _ _ _ _ _ _=>a
 |_=>{ posonlyargs:=[],args:=[],vararg:=none,kwonlyargs:=[],kw_defaults:=[],kwarg:=none,defaults:=[] }
def k9(s:Stmt):List Stmt:=match s with
 |.FunctionDef _ _ b _ _ _ _ _ _ _=>b
 |_=>[]
def k8(s:Stmt):Scope:=match s with
 |.FunctionDef _ _ _ _ _ _ sc _ _ _=>sc
 |_=>{ kind:=.function,names:=[],isGenerator:=false,isCoroutine:=false }
structure nJ(K:PySem.W.Frag)(x qual:Str)(st:Stmt)(f:Addr)(fd:FuncData):Prop where
 ex:∃(oc:Value) (od:Option Addr) (kV doc pm:Value) (an:Option Addr) (eM ct:Value) (kJ:Array (Option Value)),
  fd=PySem.W.fnOf x qual (t8 st) (k9 st) (k8 st) .none kV doc pm an eM ct/\K.lookup f=some ⟨oc,od,.func fd,kJ⟩/\PySem.W.codeIn K eM qual=true
 kp:PySem.W.keepIn K (.ref f)=true
section
variable{P:Program}{w:World}{K:PySem.W.Frag}{mg:Str->Option Value}{base:Heap}
theorem nJ.binds{x qual:Str}{st:Stmt}{f:Addr}{fd:FuncData}{ps:List Str}(F:nJ K x qual st f fd)(h:∀(kV doc pm:Value) (an:Option Addr) (eM ct:Value) (us:List Value),us.length=ps.length->bindArgs (PySem.W.fnOf x qual (t8 st) (k9 st) (k8 st) .none kV doc pm an eM ct) ⟨us,[]⟩=pure (ps.zip us)):Binds K fd ps []:=by
 obtain⟨oc,od,kV,doc,pm,an,eM,ct,kJ,rfl,lk,kq⟩:=F.ex;exact .all (h kV doc pm an eM ct)
theorem EE{x qual:Str}{st:Stmt}{f:Addr}{oc:Value}{od an:Option Addr}{kJ:Array (Option Value)}{kV doc pm eM ct:Value}(l:K.lookup f=some ⟨oc,od,.func (PySem.W.fnOf x qual (t8 st) (k9 st) (k8 st) .none kV doc pm an eM ct),kJ⟩)(c:PySem.W.codeIn K eM qual=true)(k:PySem.W.keepIn K (.ref f)=true):nJ K x qual st f (PySem.W.fnOf x qual (t8 st) (k9 st) (k8 st) .none kV doc pm an eM ct):=⟨⟨oc,od,kV,doc,pm,an,eM,ct,kJ,rfl,l,c⟩,k⟩
end
section
variable{X:Cx}
theorem Tp:j9 X (.builtin "len") (λxs H Q=>∃a kvs,xs=[V.ref a]/\H a=some (.dK kvs)/\Q (.int kvs.length) H):=by
 intro pins s Z H xs us Q I r h;obtain⟨a,kvs,rfl,ha,q⟩:=h;obtain⟨u,rfl,ru⟩:=vals1 r;cases ru;exact Kh I (.inl ha) λt s' I'=>⟨.int kvs.length,H,I',⟨t,rfl⟩,q⟩
end
section
variable{κ:Type}[DecidableEq κ]
end
end L2

namespace L2
open PySem PySem.Spec PyProof.Rows
section
variable{prog:Program}{w:World}{A:Around}{R:Result->Shared->Prop}{s:Shared}
theorem Rb{elt target iter:Expr}{ifs:List Expr}{scope:Scope}{pos:Pos}{it acc:Value}{env:Env}(I:Nat->Shared->Prop)(turn:∀ n s,I n s->wpAny (model prog w) A (pyNext it) (λr bD=>match r with
   |none=>R (.ok .next) bD
   | some v=>wpAny (model prog w) A (letOwnedTupleGo target it v) (λ_ bD=>wpAny (model prog w) A (assign target env v) (λ_ eT =>
     wpAny (model prog w) A (forIn ifs true λc r=>if r=true then do let ok <- isTrue c env (eval c env);pure (ForInStep.yield ok) else pure (ForInStep.yield r)) (λok dS =>
      if ok=true then wpAny (model prog w) A (eval elt env) (λx iA =>
       wpAny (model prog w) A (call (.builtin "list.append") [acc,x]) (λ_ kY=>∃ m,m < n/\I m kY) (λ_ _=>False) iA) (notedBy (model prog w) A env λe s'=>R (.error e) s') dS
      else ∃ m,m < n/\I m dS) (λ_ _=>False) eT) (λ_ _=>False) bD) (λ_ _=>False) bD) (λ_ _=>False) s)(n:Nat)(h:I n s) :
  codeAny (model prog w) A (.compLoop (.ListComp elt [⟨target,iter,ifs,0⟩] scope pos) 0 it acc env) R s:=by
 refine codeAny_loop rfl I (λn s hI=>?_) n h;show wpAny _ A ((compTurn (.ListComp elt [⟨target,iter,ifs,0⟩] scope pos) 0 it acc env).onRaise (λx=>do noteFrame x env;theTreesLotGoes x)) _ _ s;refine wpAny_noted ?_;rw[compTurn_list];refine aa (dq (aa (bg (turn n s hI) (λr bD cX=>?_) λ_ _ h'=>h'.elim)));cases r with
 |none=>exact ah cX
 |some v =>
  refine aa (bg cX (λ_ bD cX=>?_) λ_ _ h'=>h'.elim);refine aa (bg cX (λ_ eT gT=>aa (bg gT (λok dS lC=>?_) λ_ _ h'=>h'.elim)) λ_ _ h'=>h'.elim);cases ok with
  |false=>exact wpAny_pure ⟨rfl,lC⟩
  |true =>
   exact aa (aa (bg lC (λx iA oo=>aa (bg oo (λ_ kY om=>ah (ah ⟨rfl,om⟩)) λ_ _ h'=>h'.elim)) λ_ _ h'=>h'))
end
def ka(X:Cx)(es:List Expr)(t:TT):Prop :=
 ∀(pins:List (Addr×Obj)) (s:Shared) (Z:St) (H:Hp) (Q:Bool->Hp->Prop),Inv X pins Z H s->t Z H Q ->
  wpAny (model X.prog X.w) X.A (forIn es true λc r=>if r=true then do let ok <- isTrue c X.env (eval c X.env);pure (ForInStep.yield ok) else pure (ForInStep.yield r)) (TP X pins Z Q) X.xe s
def JT:TT:=λ_ H Q=>Q true H
section
variable{X:Cx}
theorem VN:ka X [] JT:=λpins s Z H Q I h=>ah ⟨H,I,h⟩
theorem VO{c:Expr}{t:TT}(h:PT X c t):ka X [c] t:=by
 intro pins s Z H Q I q;simp only[List.forIn_cons,List.forIn_nil,if_true];exact aa (aa (bg (h pins s Z H Q I q) (λb s' hb=>ah (ah hb)) λ_ _ x=>x))
end
def C3(scope:Scope)(cl:List (Str×Addr))(C:Addr):List (Str×Addr):=cellsFrom (C+1) scope.names []++cl
theorem A4:∀(names:List (Str×NameKind)) (n:Nat) (acc:List (Str×Addr)),cellsFrom n names acc=cellsFrom n names []++acc
 |[],_,_=>rfl
 |(y,k)::r,n,acc=>by
  unfold cellsFrom;split
  ·rw[A4 r (n+1) ((y,n)::acc),A4 r (n+1) [(y,n)],fF]
   rfl
  ·exact A4 r n acc
theorem N3{x:Str}{c:Addr}:∀{names:List (Str×NameKind)} {n:Nat},(x,c)∈cellsFrom n names []->(x,NameKind.cell)∈names
 |[],_,h=>by simp[cellsFrom] at h
 |(y,k)::r,n,h=>by
  unfold cellsFrom at h;split at h
  ·rename_i hk;rw[A4] at h;rcases bt.mp h with z|z
   ·exact bB _ (N3 z)
   ·cases GD.mp z;rw[show k=NameKind.cell from by simpa using hk];exact fh
  ·exact bB _ (N3 h)
theorem B4{α:Type}{x:Str}:∀{a b:List (Str×α)},(a++b).lookup x=(a.lookup x).or (b.lookup x)
 |[],_=>rfl
 |(y,v)::r,b=>by
  rw[List.cons_append,bW,bW];cases x==y
  ·exact B4
  ·rfl
theorem Ds{scope:Scope}{cl:List (Str×Addr)}{C:Addr}{x:Str}(h:scope.names.lookup x=some .cell\/∃c,cl.lookup x=some c):∃c,(C3 scope cl C).lookup x=some c:=by
 unfold C3;rw[B4];cases e:(cellsFrom (C+1) scope.names []).lookup x with
 |some c=>exact⟨c,rfl⟩
 |none =>
  rcases h with h|h
  ·have q:=cS scope.names (C+1) [] (.inl h);rw[e] at q;cases q
  ·exact h
theorem F5{env:Env}:∀{names:List (Str×NameKind)} {x:Str},names.lookup x=some .cell ->
  (names.map λ(n,k)=>if(k==NameKind.free&&env.scope.kind==.function&&env.kindOf n==some .cell) then(n,NameKind.cell) else(n,k)).lookup x=some .cell
 |[],_,h=>by simp at h
 |(n,k)::r,x,h=>by
  have ih:=@F5 env r x;show List.lookup x ((if(k==NameKind.free&&env.scope.kind==.function&&env.kindOf n==some .cell)=true then(n,NameKind.cell) else(n,k))::_)=_;cases hx:x==n with
  |true =>
   simp only[List.lookup_cons,hx] at h;cases h;simp[List.lookup_cons,hx]
  |false =>
   simp only[List.lookup_cons,hx] at h;by_cases hc:(k==NameKind.free&&env.scope.kind==.function&&env.kindOf n==some .cell)=true
   ·rw[aG hc];simp only[List.lookup_cons,hx];exact ih h
   ·rw[aE hc];simp only[List.lookup_cons,hx];exact ih h
theorem U8{scope:Scope}{cl:List (Str×Addr)}{C:Addr}{h:Heap}(ck:CellsOk h (C+1) (cellsFrom (C+1) scope.names [])){x:Str}{c:Addr}(e:(C3 scope cl C).lookup x=some c):C<c\/cl.lookup x=some c:=by
 unfold C3 at e;rw[B4] at e;cases e2:(cellsFrom (C+1) scope.names []).lookup x with
 |some c' =>
  rw[e2] at e;cases e;exact .inl (ck.empty x c (aI e2)).2
 |none =>
  rw[e2] at e;exact .inr e
theorem V9{M:Model}{A:Around}{E:Value->Shared->Prop}{s:Shared}{scope:Scope}{globals:Addr}{cl:List (Str×Addr)}{qual:Str}{outer:Env}{Q:Env->Shared->Prop}(hQ:∀ cX:Heap,cX.Ns s.heap.objs.size (λ_=>none)->(∀ b o,s.heap.get? b=some o->cX.get? b=some o)->CellsOk cX (s.heap.objs.size + 1) (cellsFrom (s.heap.objs.size + 1) scope.names []) ->
   Q (newEnv scope s.heap.objs.size globals (C3 scope cl s.heap.objs.size) qual none .none (some outer) builtinsNs) { s with heap:=cX }) :
  wpAny M A (newFunctionEnv scope globals cl [] qual none .none (some outer)) Q E s:=by
 simp only[newFunctionEnv,Option.isSome_some,if_true];refine aa (wpAny_alloc ?_);refine aa (wpAny_layCells _ (λname kind cells=>by cases HV:kind==NameKind.cell<;>simp[HV]) _ _ _ _ ?_);have ok:=cellsFrom_ok scope.names (s.heap.push { cls:=.type "dict",data:=.dict #[] }) (s.heap.objs.size+1) [] ⟨λ_ _ hm=>(nomatch hm),List.Pairwise.nil⟩ (by rw[dD];exact ak _);rw[dD] at ok;rw[show({ s with heap:=s.heap.push { cls:=.type "dict",data:=.dict #[] } }:Shared).heap.objs.size=s.heap.objs.size+1 from dD ..];rw[List.forIn_nil];refine aa (ah (ah ?_));rw[A4];exact hQ _ ((Heap.Ns.new s.heap (.type "dict")).keeps (pushCells_keeps _ _)) (λb o e=>pushCells_keeps _ _ b o (ai _ e)) ok
def d7(X:Cx)(pins:List (Addr×Obj))(scope:Scope)(N':List Str)(cl:List (Str×Addr))(C:Addr)(s:Shared)(H:Hp)(fp:List Addr):Cx where
 prog:=X.prog
 w:=X.w
 K:=X.K
 mg:=X.mg
 base:=X.base
 A:=X.A
 N:=N'
 cE:=s
 ij:=H
 env:=compEnvC scope (C3 scope cl C) C X.env
 outer:=X.stack
 stack:=X.stack
 ex:=fp
 calm:=true
 fn:=λx=>decide (scope.names.lookup x=some .cell)
 pn:=X.pn++pins
 xe:=λ_ _=>False
structure cP(X:Cx)(scope:Scope)(N':List Str)(d6:List Nat)(cl:List (Str×Addr)):Prop where
 kind:scope.kind=.function
 cells:∀y∈scope.names,y.2=.cell->scope.names.lookup y.1=some .cell
 names:∀y∈scope.names,y.2=.local->scope.names.lookup y.1=some .local
 oP:closureFor scope X.env=pure cl
 cin:∀x c,cl.lookup x=some c->X.env.cells.lookup x=some c
 sv:∀x,scope.names.lookup x=some .free->∃c,cl.lookup x=some c
 nd:N'.Nodup
 JG:∀(i j:Nat),d6[i]?=some j->∃x,N'[i]?=some x/\X.N[j]?=some x/\scope.names.lookup x=some .free/\(X.env.kindOf x=some .cell\/X.env.kindOf x=some .free)
 ya:d6.length<=N'.length
theorem A5{env:Env}:∀{names:List (Str×NameKind)} {x:Str},names.lookup x=some .free ->
  (names.map λ(n,k)=>if(k==NameKind.free&&env.scope.kind==.function&&env.kindOf n==some .cell) then(n,NameKind.cell) else(n,k)).lookup x=some .cell \/
  (names.map λ(n,k)=>if(k==NameKind.free&&env.scope.kind==.function&&env.kindOf n==some .cell) then(n,NameKind.cell) else(n,k)).lookup x=some .free
 |[],_,h=>by simp at h
 |(n,k)::r,x,h=>by
  have ih:=@A5 env r x;show List.lookup x ((if(k==NameKind.free&&env.scope.kind==.function&&env.kindOf n==some .cell)=true then(n,NameKind.cell) else(n,k))::_)=_\/List.lookup x ((if(k==NameKind.free&&env.scope.kind==.function&&env.kindOf n==some .cell)=true then(n,NameKind.cell) else(n,k))::_)=_;cases hx:x==n with
  |true =>
   simp only[List.lookup_cons,hx] at h;cases h;by_cases hc:(NameKind.free==NameKind.free&&env.scope.kind==.function&&env.kindOf n==some .cell)=true
   ·rw[aG hc];simp[List.lookup_cons,hx]
   ·rw[aE hc];simp[List.lookup_cons,hx]
  |false =>
   simp only[List.lookup_cons,hx] at h;by_cases hc:(k==NameKind.free&&env.scope.kind==.function&&env.kindOf n==some .cell)=true
   ·rw[aG hc];simp only[List.lookup_cons,hx];exact ih h
   ·rw[aE hc];simp only[List.lookup_cons,hx];exact ih h
theorem F6{env:Env}:∀{names:List (Str×NameKind)} {x:Str},((names.map λ(n,k)=>if(k==NameKind.free&&env.scope.kind==.function&&env.kindOf n==some .cell) then(n,NameKind.cell) else(n,k)).lookup x=some .cell \/
  (names.map λ(n,k)=>if (k == NameKind.free && env.scope.kind == .function && env.kindOf n == some .cell) then (n,NameKind.cell) else (n,k)).lookup x=some .free)->names.lookup x=some .free \/ names.lookup x=some .cell
 |[],_,h=>by simp at h
 |(n,k)::r,x,h=>by
  have ih:=@F6 env r x;rw[aU] at h;cases hx:x==n with
  |true =>
   simp only[List.lookup_cons,hx];by_cases hc:(k==NameKind.free&&env.scope.kind==.function&&env.kindOf n==some .cell)=true
   ·left;simp only[Bool.and_eq_true,beq_iff_eq] at hc;rw[hc.1.1]
   ·simp only[if_neg hc,List.lookup_cons,hx] at h;rcases h with h|h
    ·exact .inr h
    ·exact .inl h
  |false =>
   simp only[List.lookup_cons,hx];by_cases hc:(k==NameKind.free&&env.scope.kind==.function&&env.kindOf n==some .cell)=true
   ·simp only[if_pos hc,List.lookup_cons,hx] at h;exact ih h
   ·simp only[if_neg hc,List.lookup_cons,hx] at h;exact ih h
def v9(Z:St)(d6:List Nat)(n:Nat):St:=d6.map (λj=>(Z[j]?).join)++List.replicate (n-d6.length) none
section
variable{X:Cx}{pins:List (Addr×Obj)}{Z:St}{H:Hp}{s:Shared}
theorem Inv.DV{scope:Scope}{N':List Str}{d6:List Nat}{cl:List (Str×Addr)}{C:Addr}{h1:Heap}{fp:List Addr}{tk:Nat}(I:Inv X pins Z H s)(S:cP X scope N' d6 cl)(hc:X.calm=true)(hf:∀b∈fp,w5 X pins H b)(ho:∀b∈fp,∃o,s.heap.get? b=some o)(hC:s.heap.objs.size<=C)(hn:∃m,h1.Ns C m)(k:∀b o,s.heap.get? b=some o->h1.get? b=some o)(ck:CellsOk h1 (C+1) (cellsFrom (C+1) scope.names [])) :
  Inv (d7 X pins scope N' cl C s H fp) [] (v9 Z d6 N'.length) H { s with heap:=h1,toks:=tk }:=by
 obtain⟨m,hm⟩:=hn;have HU:(relabel scope X.env).kind=.function:=S.kind;have AQ:∀b o,s.heap.get? b=some o->b≠C:=λb o e z=>absurd (au e) (by rw[z];exact ja.mpr hC);have two:∀{x:Str} {c:Addr},(C3 scope cl C).lookup x=some c->(C<c/\h1.IsCell c none/\(x,c)∈cellsFrom (C+1) scope.names [])\/(cl.lookup x=some c/\(cellsFrom (C+1) scope.names []).lookup x=none):=λ{x c} h=>by
  unfold C3 at h;rw[B4] at h;cases e:(cellsFrom (C+1) scope.names []).lookup x with
  |some c' =>
   rw[e] at h;cases h;have hm:=aI e;exact .inl ⟨(ck.empty x c hm).2,(ck.empty x c hm).1,hm⟩
  |none =>
   rw[e] at h;exact .inr ⟨h,rfl⟩
 have qw:∀{x:Str} {c:Addr},cl.lookup x=some c->c<s.heap.objs.size:=λ{x c} h=>by
  obtain⟨v,o,e,_⟩:=I.cell x c (S.cin x c h);exact au e
 have frees:∀{x:Str},scope.names.lookup x=some .free->(C3 scope cl C).lookup x=cl.lookup x:=λ{x} h=>by
  unfold C3;rw[B4];cases e:(cellsFrom (C+1) scope.names []).lookup x with
  |some c' =>
   have:=S.cells _ (N3 (aI e)) rfl;rw[h] at this;cases this
  |none=>rfl
 refine⟨⟨I.mod,HU,I.ok.glob,I.ok.blt,hC,?_,?_,?_,λ_=>I.ok.hd hc,I.ok.frames,.inl rfl,?_,I.bs,?_,?_,?_,I.stack,I.Z6⟩,rfl,I.bare,Un.kept k,⟨m,hm,?_⟩,?_,?_,?_,?_,I.bx.kept k,?_⟩
 ·intro x y c h1 h2;rcases two h1 with⟨l1,_,q1⟩|⟨q1,_⟩<;>rcases two h2 with⟨l2,_,q2⟩|⟨q2,_⟩
  ·exact PySem.name_of_addr ck.apart q1 q2
  ·exact absurd (cu l1 (ao (qw q2) hC)) (ba _)
  ·exact absurd (cu l2 (ao (qw q1) hC)) (ba _)
  ·exact I.ok.inj x y c (S.cin x c q1) (S.cin y c q2)
 ·intro x hx;rcases F6 (env:=X.env) (names:=scope.names) hx with z|z
  ·obtain⟨c,hc⟩:=S.sv x z;exact⟨c,(frees z).trans hc⟩
  ·have q:=cS scope.names (C+1) [] (.inl z);obtain⟨c,hc⟩:=dC.mp q;refine⟨c,?_⟩;show(C3 scope cl C).lookup x=some c;unfold C3;rw[B4,hc]
   rfl
 ·intro x c hf h;have z:scope.names.lookup x=some .cell:=aY hf;have q:=cS scope.names (C+1) [] (.inl z);rcases two h with⟨l,_⟩|⟨_,e⟩
  ·exact dt (jb hC l)
  ·rw[e] at q;cases q
 ·intro b hb;obtain⟨f0,f1,f2,f3,f4,f5⟩:=hf b hb;obtain⟨o,e⟩:=ho b hb;refine⟨AQ b o e,λx c h=>?_⟩;rcases two h with⟨l,_⟩|⟨q,_⟩
  ·intro z;subst z;exact absurd (cu l (ao (au e) hC)) (ba _)
  ·exact f4 x c (S.cin x c q)
 ·exact aO I.ok.lP I.sz
 ·intro b o e hb;obtain⟨f0,f1,f2,f3,f4,f5⟩:=hf b hb;rcases f3 with f3|f3
  ·exact I.ok.jh b o e f3
  ·exact absurd (au (I.ok.bs b o e).1) (ja.mpr f3)
 ·intro b hb z;obtain⟨f0,f1,f2,f3,f4,f5⟩:=hf b hb;rcases az.mp (I.E5 b z) with z|z
  ·exact f1 z
  ·exact f2 z
 ·intro i x v IV h2 h3;have hi:i<d6.length:=by
   unfold v9 at h2;by_cases hi:i<d6.length
   ·exact hi
   ·rw[dn (by simpa using hi),cM] at h2;split at h2<;>cases h2
  obtain⟨j,hj⟩:∃j,d6[i]?=some j:=⟨_,aq hi⟩
  have hs:Z[j]?=some (some v):=by
   unfold v9 at h2;rw[aA (by simpa using hi),aD,hj] at h2;simp only[Option.map_some] at h2;cases e:Z[j]? with
   |none=>rw[e] at h2;cases h2
   |some a=>rw[e] at h2;exact fT some (aF h2)
  obtain⟨y,HE,HD,wg,Bg⟩:=S.JG i j hj;have ey:y=x:=by
   have rT:N'[i]?=some x:=IV;rw[HE] at rT;exact aF rT
  subst ey;obtain⟨m0,Xj,hl⟩:=I.loc;obtain ⟨u,ru,hu⟩:=hl j y v HD hs (by
   rcases Bg with z|z
   ·exact .inr (.inl z)
   ·exact .inr (.inr z))
  refine⟨u,ru,.inr ⟨A5 (env:=X.env) (names:=scope.names) wg,?_⟩⟩;rcases hu with⟨z,_⟩|⟨_,c,rF,lJ⟩
  ·rcases Bg with z'|z'<;>(rw[z'] at z;cases z)
  ·obtain⟨c',iu⟩:=S.sv y wg;have e:=S.cin y c' iu;rw[rF] at e;cases e;obtain⟨o,e1,e2⟩:=lJ;exact⟨c,(frees wg).trans iu,o,k _ _ e1,e2⟩
 ·intro x c h;rcases two h with⟨_,q,_⟩|⟨q,_⟩
  ·exact⟨none,q⟩
  ·obtain⟨v,o,e1,e2⟩:=I.cell x c (S.cin x c q);exact⟨v,o,k _ _ e1,e2⟩
 ·exact I.bx.fresh hC
 ·intro x c h;rcases two h with⟨l,_⟩|⟨q,_⟩
  ·exact I.bx.fresh (dt (jb hC l))
  ·exact I.dA x c (S.cin x c q)
 ·intro p hp;have iJ:p∈X.pn++pins:=by simpa[d7] using hp
  obtain⟨p1,p2,p3,p4,p5⟩:=I.pin p iJ;refine⟨k _ _ p1,p2,AQ _ _ p1,λz=>?_,p5⟩;rcases az.mp (I.E5 _ z) with z|z
  ·exact p3 z
  ·exact p4 z
 ·unfold v9;show _=N'.length;rw[bc,aj,gN];have:=S.ya;omega
theorem Inv.CL{scope:Scope}{N':List Str}{cl:List (Str×Addr)}{C:Addr}{fp:List Addr}{gP:List (Addr×Obj)}{bI:St}{H':Hp}{s':Shared}(I:Inv X pins Z H s)(hf:∀b∈fp,w5 X pins H b)(J:Inv (d7 X pins scope N' cl C s H fp) gP bI H' s'):Inv X pins Z H' s' :=
 I.zw (ch:=fp) J.os J.base J.bx J.bare λb hb=>by
  obtain⟨f0,f1,f2,f3,f4,f5⟩:=hf b hb;exact⟨f3,f1,f4,f5⟩
theorem Inv.LL{D:Addr}{ys:List V}{aQ:List Value}{n:Nat}(I:Inv X pins Z H s)(f:w5 X pins H D)(hs:X.cE.heap.objs.size<=D)(hv:Vals ys aQ)(hz:ys.length<=sizeLine)(ho:s.heap.get? D=some { cls:=.type "list",data:=.seq aQ.toArray n }):Inv X pins Z (upd H D (.lst ys)) s:=by
 obtain⟨f0,f1,f2,f3,f4,f5⟩:=f;have dO:∀b o,X.cE.heap.get? b=some o->b≠D:=λb o e z=>absurd (au e) (by rw[z];exact ja.mpr hs);have tup:∀b u,H b=some u->upd H D (.lst ys) b=some u:=λb u e=>by rw[f9 (j4 e f0)];exact e
 refine⟨I.ok,I.os,I.bare,⟨?_,?_,?_,I.base.there,?_,?_,?_⟩,I.loc,I.cell,?_,?_,?_,?_,I.len⟩
 ·exact λb o e n1 n2 n3=>I.base.keep b o e n1 n2 n3
 ·exact λb o e n1 n2 n3=>I.base.slot b o e n1 n2 n3
 ·exact λb o e n1 n2=>by rw[f9 (dO b o e)];exact I.base.free b o e n1 n2
 ·exact λb xs e=>tup _ _ (I.base.fY b xs e)
 ·exact λb o u e=>tup _ _ (I.base.fL b o u e)
 ·exact λb ps e=>by
   obtain⟨more,q⟩:=I.base.fZ b ps e;exact⟨more,tup _ _ q⟩
 ·rw[f9 f1.symm];exact I.free
 ·exact λx c e=>by rw[f9 (f4 x c e)];exact I.dA x c e
 ·intro p hp;obtain⟨p1,p2,p3⟩:=I.pin p hp;exact⟨p1,by rw[f9 (f5 p hp)];exact p2,p3⟩
 ·intro a o e;by_cases ha:a=D
  ·subst ha;rw[l0] at e;cases e;exact⟨hz,aQ,n,hv,ho⟩
  ·rw[f9 ha] at e;have q:=I.bx a o e;refine q.M0 (λb u _ h=>h) (λb hb=>tup _ _ hb) (λb xs hb=>tup _ _ hb)
end
end L2

namespace L2
open PySem PySem.Spec PyProof.Rows
def zL(wi:TI)(d6:List Nat)(n:Nat)(g:TG)(tc:TT)(te:TE):TE:=λZ H Q=>wi Z H λJ H1=>∃W:Nat->Nat->List V->St->Hp->Prop,(∃m,W 0 m [] (v9 Z d6 n) H1)/\∀i m ys Z H,W i m ys Z H ->
 (J.stop i H/\∀p,H p=none->Q (.ref p) (upd H p (.lst ys))) \/
 (J.go i H/\ys.length < sizeLine/\∀ x H',J.nP i H x H'->g x Z H' λbY H2=>tc bY H2 λb H3 =>
  if b=true then te bY H3 λy H4=>∃ m',m' < m/\W (i + 1) m' (ys ++ [y]) bY H4 else ∃ m',m' < m/\W (i + 1) m' ys bY H3)
noncomputable abbrev F9(aQ:List Value)(n:Nat):Obj:={ cls:=.type "list",data:=.seq aQ.toArray n }
section
variable{X:Cx}{pins:List (Addr×Obj)}{Z:St}{H:Hp}{s:Shared}
theorem DU{elt tg iter:Expr}{ifs:List Expr}{scope:Scope}{N':List Str}{d6:List Nat}{cl:List (Str×Addr)}{pos:Pos}{it:Addr}{fp:List Addr}{tn:Nat->Heap->Prop}{J:It}{g:TG}{tc:TT}{te:TE}{xx:Addr->Shared->Hp->Value->Shared->Prop}{RR:Value->Addr->Result->Shared->Prop}{E:Value->Shared->Prop}{W:Nat->Nat->List V->St->Hp->Prop}{m0:Nat}{Q:VK}(S:cP X scope N' d6 cl)(hc:X.calm=true)(hg:∀C s H,PG (d7 X pins scope N' cl C s H fp) tg g)(ht:∀C s H,ka (d7 X pins scope N' cl C s H fp) ifs tc)(he:∀C s H,PE ((d7 X pins scope N' cl C s H fp).R9 (xx C s H)) elt te)(I:Inv X pins Z H s)(T:Turn X.prog X.w X.K tg J fp it tn)(st:tn 0 s.heap)(hf:∀b∈fp,w5 X pins H b)(w0:W 0 m0 [] (v9 Z d6 N'.length) H)(turn:∀ i m ys Z H,W i m ys Z H->(J.stop i H/\∀ p,H p=none->Q (.ref p) (upd H p (.lst ys))) \/
   (J.go i H/\ys.length < sizeLine/\∀ x H',J.nP i H x H'->g x Z H' λbY H2=>tc bY H2 λb H3 =>
    if b=true then te bY H3 λy H4=>∃ m',m' < m/\W (i + 1) m' (ys ++ [y]) bY H4 else ∃ m',m' < m/\W (i + 1) m' ys bY H3))(wU:∀D C s' H' m,Inv X pins Z H' s'->Q (.ref D) H'->s'.heap.Ns C m->H' C=none->s.heap.objs.size<=C->RR (.ref D) C (.ok .next) s')(ID:∀D C e s',s.heap.objs.size<=C->xx C s H e s'->notedBy (model X.prog X.w) X.A (compEnvC scope (C3 scope cl C) C X.env) (λe s'=>RR (.ref D) C (.error e) s') e s') :
  wpAny (model X.prog X.w) X.A (newList []) (λacc dS=>wpAny (model X.prog X.w) X.A (newFunctionEnv scope X.env.globals cl [] X.env.qual none .none (some X.env)) (λku iA =>
   ku.frame=X.env.frame/\codeAny (model X.prog X.w) X.A (.compStart (.ListComp elt [⟨tg,iter,ifs,0⟩] scope pos) 0 (.ref it) acc { ku with scope:=relabel scope X.env }) (RR acc ku.locals) iA) E dS) E s:=by
 refine bO (V9 λcX fz eL lI=>?_);dsimp only at fz eL lI ⊢;generalize oE:s.heap.push { cls:=.type "list",dict:=none,data:=.seq ([]:List Value).toArray }=H2 at fz eL lI ⊢;generalize eD:s.heap.objs.size=D at *;have hC:H2.objs.size=D+1:=by rw[<- oE,dD,eD]
 generalize eC:H2.objs.size=C at *;have rL:D≠C:=by omega
 have lt:∀b o,s.heap.get? b=some o->b<D:=λb o e=>by rw[<- eD];exact au e
 have oj:D<=C:=by omega
 have mV:∀b o,s.heap.get? b=some o->b≠C:=λb o e=>aK (ao (lt b o e) oj);have lr:∀b o,s.heap.get? b=some o->b≠D:=λb o e=>aK (lt b o e);have old:∀b o,s.heap.get? b=some o->cX.get? b=some o:=λb o e=>eL b o (oE▸ai _ e);have jK:cX.get? D=some (F9 [] 0):=eL _ _ (by rw[<- oE,<- eD];exact ax _ rfl);have gU:∀b∈fp,∃o,s.heap.get? b=some o:=λb hb=>by
  obtain⟨o,e,_⟩:=T.obj _ _ st b hb;exact⟨o,e⟩
 have rK:D∉fp:=λhm=>by
  obtain⟨o,e⟩:=gU D hm;exact lr D o e rfl
 have X1:Inv (d7 X pins scope N' cl C s H fp) [] (v9 Z d6 N'.length) H { s with heap:=cX } :=
  I.DV S hc hf gU (by rw[eD];omega) ⟨_,fz⟩ old lI
 have qp:tn 0 cX:=T.keep _ _ _ st λb _ o e=>old b o e;have xG:∀{H':Hp},(∀b∈fp,H' b=none)->∀b∈fp,w5 (d7 X pins scope N' cl C s H fp) [] H' b:=λhn b hb=>by
  obtain⟨f0,f1,f2,f3,f4,f5⟩:=hf b hb;obtain⟨o,e⟩:=gU b hb;refine⟨hn b hb,?_,?_,.inl hb,λx c q=>(U8 lI q).elim (λl z=>absurd (cu (z▸l) (ao (lt b o e) oj)) (ba _)) λq=>f4 x c (S.cin x c q),λp hp=>?_⟩
  ·exact mV b o e
  ·exact λz=>by
    rcases az.mp (I.E5 b z) with z|z
    ·exact f1 z
    ·exact f2 z
  ·have iJ:p∈X.pn++pins:=by simpa[d7] using hp
   exact f5 p iJ
 have fD:∀{H':Hp},H' D=none->w5 (d7 X pins scope N' cl C s H fp) [] H' D:=λhn=>by
  refine⟨hn,rL,λz=>?_,.inr (by show s.heap.objs.size<=D;omega),λx c q=>?_,λp hp=>?_⟩
  ·exact absurd (I.sG (a:=D) (by omega)) λrh=>by
    rcases az.mp (I.E5 D z) with z|z
    ·exact absurd I.lt (by rw[<- z,eD];exact ba _)
    ·exact rh z
  ·rcases U8 lI q with l|q
   ·exact λz=>absurd (ao (z▸l) oj) (ba _)
   ·obtain⟨v,o,e,_⟩:=I.cell x c (S.cin x c q);exact lr c o e
  ·have iJ:p∈X.pn++pins:=by simpa[d7] using hp
   exact lr _ _ (I.pin p iJ).1
 have nZ:∀{H':Hp} {s':Shared} {bI:St} {aQ:List Value} {n:Nat},Inv (d7 X pins scope N' cl C s H fp) [] bI H' s'->H' D=none->s'.heap.get? D=some (F9 aQ n) ->
   Inv (d7 X pins scope N' cl C s H fp) [(D,F9 aQ n)] bI H' s':=λ{H' s' bI aQ n} J0 hn e=>J0.C5 λp hp=>by
  have z:p=(D,F9 aQ n):=by simpa using hp
  subst z;obtain⟨f0,f1,f2,_⟩:=fD hn;exact⟨e,f0,f1,f2,λv z=>nomatch z⟩
 have oI:∀{H':Hp} {aQ:List Value} {n:Nat},(∀b∈fp,H' b=none)->∀b∈fp,w5 (d7 X pins scope N' cl C s H fp) [(D,F9 aQ n)] H' b:=λ{H' aQ n} hn b hb=>by
  obtain⟨f0,f1,f2,f3,f4,f5⟩:=xG hn b hb;refine⟨f0,f1,f2,f3,f4,λp hp=>?_⟩;have iJ:p∈(d7 X pins scope N' cl C s H fp).pn\/p=(D,F9 aQ n):=by simpa using hp
  rcases iJ with z|z
  ·exact f5 p (dk _ z)
  ·subst z;exact λz=>rK (by rw[show D=b from z];exact hb)
 have loop:∀dS:Shared,dS={ s with heap:=cX } ->
   codeAny (model X.prog X.w) X.A (.compLoop (.ListComp elt [⟨tg,iter,ifs,0⟩] scope pos) 0 (.ref it) (.ref D) (compEnvC scope (C3 scope cl C) C X.env)) (RR (.ref D) C) dS:=by
  rintro dS rfl;refine Rb (λn s'=>∃ i ys bI H' aQ nn,Inv (d7 X pins scope N' cl C s H fp) [] bI H' s'/\tn i s'.heap/\(∀ b ∈ fp,H' b=none)/\H' D=none/\Vals ys aQ/\ys.length <= sizeLine /\
   s'.heap.get? D=some (F9 aQ nn)/\W i n ys bI H') ?_ m0 ⟨0,[],_,H,[],0,X1,qp,λb hb=>(hf b hb).1,I.bx.fresh (by omega),.nil,cQ _,jK,w0⟩
  rintro n s3 ⟨i,ys,gx,H3,aQ,nn,I3,mR,nA,d3,v3,z3,o3,w3⟩;have tq:=nZ I3 d3 o3;rcases turn i n ys gx H3 w3 with⟨stop,q⟩|⟨go,hz,step⟩
  ·refine bS (T.done (d7 X pins scope N' cl C s H fp) rfl rfl rfl rfl i _ s3 _ H3 _ tq (oI nA) mR stop) λr s4 ⟨hr,I4⟩=>?_;subst hr;have o4:=(I4.pin (D,F9 aQ nn) (by simp)).1;have J4:Inv X pins Z H3 s4:=I.CL hf I4;have xH:w5 X pins H3 D:=by
    refine⟨d3,bH (by rw[<- eD];exact I.lt),I.sG (by omega),.inr (by have:=I.sz;omega),λx c q=>?_,λp hp=>?_⟩
    ·obtain⟨v,o,e,_⟩:=I.cell x c q;exact lr c o e
    ·exact lr _ _ (I.pin p hp).1
   obtain⟨mC,wz,_⟩:=I4.loc;exact wU D C s4 (upd H3 D (.lst ys)) mC (J4.LL xH (by have:=I.sz;omega) v3 z3 o4) (q D d3) wz (by rw[f9 rL.symm];exact I4.free) (by omega)
  ·refine bS (T.item (d7 X pins scope N' cl C s H fp) rfl rfl rfl rfl i _ s3 _ H3 _ tq (oI nA) mR go) λr s4 ⟨u,hr,h4⟩=>?_;subst hr;refine bS h4 λ_ s5 aX=>?_;obtain⟨x,H5,I5,r5,y5,kZ,rY⟩:=aX;have o5:=I5.pin (D,F9 aQ nn) (by simp);have tm:=I5.pinned (oI rY) (T.obj _ _ kZ);refine bS (hg C s H _ s5 _ H5 x u _ tm r5 (step x H5 y5)) λ_ s6 aX=>?_;obtain⟨ke,H6,I6,q6⟩:=aX;refine bS (ht C s H _ s6 ke H6 _ I6 q6) λok s7 ⟨H7,I7,q7⟩=>?_;have back:∀{qj:St} {H8:Hp} {s8:Shared},Inv (d7 X pins scope N' cl C s H fp) ([(D,F9 aQ nn)]++P9 fp s5.heap) qj H8 s8->(∀b∈fp,H8 b=none)/\tn (i+1) s8.heap/\H8 D=none/\s8.heap.get? D=some (F9 aQ nn) :=
    λ{qj H8 s8} I8=>by
     have pf:∀b∈fp,∀o,s5.heap.get? b=some o->s8.heap.get? b=some o/\H8 b=none:=λb hb o e=>by
      have:=I8.pin (b,o) (bf _ (bf _ (K8 hb e)));exact⟨this.1,this.2.1⟩
     have pd:=I8.pin (D,F9 aQ nn) (by simp);refine⟨λb hb=>?_,T.keep _ _ _ kZ λb hb o e=>(pf b hb o e).1,pd.2.1,pd.1⟩;obtain⟨o,e,_⟩:=T.obj _ _ kZ b hb;exact(pf b hb o e).2
   cases ok with
   |false =>
    obtain⟨m',hm,w7⟩:=q7;obtain⟨b1,b2,b3,b4⟩:=back I7;exact⟨m',hm,i+1,ys,ke,H7,aQ,nn,I7.C5 λp hp=>absurd hp (by simp),b2,b1,b3,v3,z3,b4,w7⟩
   |true =>
    refine bg (he C s H _ s7 ke H7 _ (I7.R9 _) q7) (λxv s8 aX=>?_) λe s' hx=>ID D C e s' (by omega) hx;obtain⟨y,H8,I8,r8,m',hm,w8⟩:=aX;have I8:=I8.yA;obtain⟨b1,b2,b3,b4⟩:=back I8;refine ei F.slot_list_append ⟨_,b4,rfl⟩ F.entry_list_append (F.args_list_append_2 _ _) (WQ D aQ.toArray nn xv (by rw[ay];have:=v3.length;omega)) ⟨b4,?_⟩;have q:∃n',(s8.heap.update D (Obj.mapSeq (·.push xv))).get? D=some (F9 (aQ++[xv]) n'):=by
     have q0:=X' b4 (·.push xv);have e0:aQ.toArray.push xv=(aQ++[xv]).toArray:=by simp
     rw[e0] at q0;exact⟨_,q0⟩
    obtain⟨n',q⟩:=q;have Ah:Inv (d7 X pins scope N' cl C s H fp) [] ke H8 s8:=I8.C5 λp hp=>absurd hp (by simp);obtain⟨f0,f1,f2,f3,f4,f5⟩:=fD (H':=H8) b3;have kp:∀b o,b≠D->s8.heap.get? b=some o->(s8.heap.update D (Obj.mapSeq (·.push xv))).get? b=some o:=λb' u hb hu=>(bL s8.heap (Obj.mapSeq (·.push xv)) (bR hb)).trans hu;refine⟨m',hm,i+1,ys++[y],ke,H8,aQ++[xv],n',Ah.turned (it:=D) (t':=s8.toks) kp f0 f1 f3 f4 f5,T.keep _ _ _ b2 λb hb o e=>kp b o (λz=>rK (by rw[<- z];exact hb)) e,b1,b3,v3.append (.cons r8 .nil),?_,q,w8⟩;rw[bc,gM];omega
 exact⟨rfl,codeAny_compStart_list (loop _ rfl) (T.self _ 0 _ _ _ qp (loop _ rfl))⟩
theorem Inv.zz{C:Addr}{h':Heap}{s2:Shared}{H2:Hp}(I:Inv X pins Z H s)(hC:s2.heap.objs.size<=C)(I2:Inv X pins Z H2 s2)(hn:H C=none)(sb:Heap.SameBut C s.heap h'):Inv X pins Z H { s with heap:=h' }:=by
 have f:=I2.Y7 (b:=C) (H':=H) hC hn;obtain⟨f0,f1,f2,f3,f4,f5⟩:=f;exact I.turned (t':=s.toks) (λb o hb e=>sb.extBut b o hb e) f0 f1 f3 f4 f5
theorem DX{M:Model}{A:Around}{E:Value->Shared->Prop}{s:Shared}{a:Sem Value}{b:Sem Env}{P:Env->Prop}{Q:Value->Env->Shared->Prop}(h:wpAny M A a (λx s1=>wpAny M A b (λy s2=>P y/\Q x y s2) E s1) E s):wpAny M A a (λx s1=>wpAny M A b (λy s2=>Q x y s2) E s1) E s :=
 bg h (λ_ _ h=>bg h (λ_ _ h=>h.2) λ_ _ z=>z) λ_ _ z=>z
theorem Ft{elt tg iter:Expr}{ifs:List Expr}{scope:Scope}{N':List Str}{d6:List Nat}{cl:List (Str×Addr)}{pos:Pos}{wi:TI}{g:TG}{tc:TT}{te:TE}(S:cP X scope N' d6 cl)(hc:X.calm=true)(hi:PI X tg iter wi)(hg:∀pins C s H fp,PG (d7 X pins scope N' cl C s H fp) tg g)(ht:∀pins C s H fp,ka (d7 X pins scope N' cl C s H fp) ifs tc)(he:∀pins C s H fp,PE (d7 X pins scope N' cl C s H fp) elt te)(hs:∀x,foldedSetIterable iter X.env x=pure x):PE X (.ListComp elt [⟨tg,iter,ifs,0⟩] scope pos) (zL wi d6 N'.length g tc te):=by
 intro pins s Z H Q I h;rw[eval_ListComp];refine gJ (use:=none) rfl hs S.oP S.kind S.names (bS (hi pins s Z H _ I h) λxv bD cX=>bS cX λqS eT gT=>?_);obtain⟨it,fp,tn,J,H2,e,I2,T,jE,f2,W,⟨m0,w0⟩,turn⟩:=gT;subst e;refine DX (DU (xx:=λ_ _ _ _ _=>False) (RR:=λacc C=>compPost (model X.prog X.w) X.A X.xe none (EP X pins Z Q) acc C) S hc (λC s H=>hg pins C s H fp) (λC s H=>ht pins C s H fp) (λC s H=>he pins C s H fp) I2 T jE f2 w0 turn ?_ λ_ _ _ _ _ z=>z.elim);intro D C s' H' m I' q hn hC hsz;exact⟨m,hn,λh' sb=>⟨.ref D,H',I'.zz hsz I2 hC sb,rfl,q⟩⟩
theorem QR{elt tg iter:Expr}{ifs:List Expr}{scope:Scope}{N':List Str}{d6:List Nat}{cl:List (Str×Addr)}{pos qq px:Pos}{wi:TI}{g:TG}{tc:TT}{te:TE}{i:Nat}{x:Str}(S:cP X scope N' d6 cl)(hc:X.calm=true)(hi:PI X tg iter wi)(hg:∀pins C s H fp,PG (d7 X pins scope N' cl C s H fp) tg g)(ht:∀pins C s H fp,ka (d7 X pins scope N' cl C s H fp) ifs tc)(he:∀pins C s H fp,PE (d7 X pins scope N' cl C s H fp) elt te)(hs:∀x,foldedSetIterable iter X.env x=pure x)(hN:X.N.Nodup)(rA:X.N[i]?=some x)(hx:Loc X.env.scope x)(hf:X.fn x=true\/X.env.scope.names.lookup x=some .local) :
  PS X (.Assign [.Name x px] (.ListComp elt [⟨tg,iter,ifs,0⟩] scope pos) qq) (sH (zL wi d6 N'.length g tc te) (pV i)):=by
 intro pins s Z H D I h;have tW:∃b,swapsWith (.ListComp elt [⟨tg,iter,ifs,0⟩] scope pos) (some (.Name x px)) qq.line X.env=pure b:=⟨_,rfl⟩
 obtain⟨b,tW⟩:=tW;cases b with
 |false=>exact EN hN rA hx (Ft S hc hi hg ht he hs) tW hf pins s Z H D I h
 |true =>
  rw[exec_Assign_Name_used _ _ _ _ tW];refine aa (dq (aa ?_));show wpAny _ X.A (do let _ <- comprehension (.ListComp elt [⟨tg,iter,ifs,0⟩] scope pos) scope X.env _ (newList []) false (eval iter X.env) (some (assign (.Name x px) X.env))) _ _ s;refine aa (bg (gJ (use:=some (assign (.Name x px) X.env)) (Q:=λ_ s'=>SP X pins D .next s') rfl hs S.oP S.kind S.names
   (bS (hi pins s Z H _ I h) λxv bD cX=>bS cX λqS eT gT=>?_)) (λ_ s' hq=>ah (ah hq)) λ_ _ e=>e)
  obtain⟨it,fp,tn,J,H2,e,I2,T,jE,f2,W,⟨m0,w0⟩,turn⟩:=gT;subst e;refine DX (DU (xx:=λ_ _ _ _ _=>False) (Q:=λv H1=>pV i v Z H1 D.nx) (RR:=λacc C=>compPost (model X.prog X.w) X.A X.xe (some (assign (.Name x px) X.env)) (λ_ s'=>SP X pins D .next s') acc C) S hc (λC s H=>hg pins C s H fp) (λC s H=>ht pins C s H fp) (λC s H=>he pins C s H fp) I2 T jE f2 w0 turn ?_ λ_ _ _ _ _ z=>z.elim);intro Dl C s' H' m I' q hn hC hsz;show wpAny _ X.A (assign (.Name x px) X.env (.ref Dl)) _ _ _;refine wpAny_assign_Name (DN I' hN rA hx (v:=.ref Dl) rfl (λs3 I3 ⟨a,sb,ha⟩=>?_) hf);have IE:C≠a:=by
   obtain⟨f0,f1,f2,f3,f4,f5⟩:=I2.Y7 (b:=C) (H':=H') hsz hC;rcases ha with z|z
   ·rw[z];exact f1
   ·exact λz'=>f4 _ _ z z'.symm
  obtain⟨f0,f1,f2,f3,f4,f5⟩:=I2.Y7 (b:=C) (H':=H') hsz hC;refine⟨m,hn.sameBut sb IE,λh3 He=>⟨_,H',I3.turned (t':=s3.toks) (λb o hb e=>He.extBut b o hb e) f0 f1 f3 f4 f5,q⟩⟩
end
end L2

namespace HT
open PySem PyProof.Rows
section
variable{prog:Program}{w:World}{A:Around}{E:Value->Shared->Prop}{s:Shared}
theorem WA{t b:Addr}{ws:List Value}{Q:Value->Shared->Prop}(ht:IsTup s.heap t #[])(hb:IsTup s.heap b ws.toArray)(h1:Q (.ref b) s):wpAny (model prog w) A (binaryOp .Add (.ref t) (.ref b)) Q E s:=by
 obtain⟨⟨cls,dd,data,sl⟩,ho,hc,n,hd⟩:=id ht;obtain⟨⟨su,nD,data2,jQ⟩,jH,lJ,n2,hd2⟩:=id hb;simp only at hc hd lJ hd2;subst hc hd lJ hd2;exact XY ⟨_,ho,rfl⟩ ⟨_,jH,rfl⟩ hV kz gs fU (fJ _ _)
   (tuple_addW0 t b #[] ws.toArray n n2 dd nD sl jQ rfl) ⟨ho,jH,h1⟩
theorem W9{t sl:Addr}{items:Array Value}{vl vu:Value}{lo hi:Option Int}{Q:Value->Shared->Prop}(ht:IsTup s.heap t items)(hs:s.heap.IsSliceOf sl vl vu .none)(pl:IsPart vl lo)(pu:IsPart vu hi)(hw:cN items.size 0 lo=0/\cN items.size items.size hi=items.size)(h:Q (.ref t) s):wpAny (model prog w) A (getItem (.ref t) (.ref sl)) Q E s:=by
 obtain⟨os,ot,tY,rC⟩:=id hs;have wQ:s.TypeIs (.ref sl) "slice":=⟨os,ot,tY⟩
 unfold getItem
 try with_reducible refine bT ?_
 first|refine aa (ah ?_)|skip
 refine aa (wpAny_sequenceKey ht.typeIs (by decide) ?_);refine aa (et (name:=Str.ofString "__getitem__") ht.typeIs bz
  (cb bz ht.typeIs entry_tuple_getitem ?_ (args_tuple_getitem _ _)))
 show wpAny _ _ (Builtin.Tuple.tupleItemsOf (.ref t) >>= _) _ _ s;refine aa (tupleItemsOf_ ht ?_);refine aa (dI wQ ?_);rw[aG (by decide)];refine aa (M3 hs pl pu ?_);have we:((((cN items.size 0 lo:Nat):Int)==0&&(1:Int)==1&&(cN items.size items.size hi-cN items.size 0 lo)==items.size)=true):=by
  rw[hw.1,hw.2];simp
 show wpAny _ _ (if(((cN items.size 0 lo:Nat):Int)==0&&(1:Int)==1&&(cN items.size items.size hi-cN items.size 0 lo)==items.size)=true then _ else _) _ _ s;rw[aG we];obtain⟨o,ho,hc,_⟩:=id ht;unfold Builtin.Tuple.tupleIsExact;refine aa (aa (dI ht.typeIs (ah ?_)));rw[aG (by decide)]
 first
  |exact wpAny_bind (wpAny_rule (wpAny_bind (wpAny_pure ⟨_,rfl,wpAny_pure h⟩)))
  |exact wpAny_bind (wpAny_rule (wpAny_pure ⟨_,rfl,wpAny_pure h⟩))
  |exact wpAny_bind (wpAny_rule (wpAny_bind (wpAny_pure (wpAny_pure ⟨_,rfl,wpAny_pure h⟩))))
end
end HT
namespace L2
open PySem PySem.Spec PyProof.Rows
section
variable{X:Cx}
def Nq(K:PySem.W.Frag):R2:=λx y H Q=>∃a b xs ys,x=.ref a/\y=.ref b/\gC K H a xs/\gC K H b ys/\xs.length+ys.length<=sizeLine /\
 (xs=[]->Q (.ref b) H)/\(ys=[]->Q (.ref a) H)/\(∀p,H p=none->Q (.ref p) (upd H p (.tup (xs++ys))))
theorem Sg:eI X (binaryOp .Add) (Nq X.K):=by
 intro pins s Z H x y v u Q I rx ry h;obtain⟨a,b,xs,ys,rfl,rfl,ha,hb,hz,q0,q1,q2⟩:=h;by_cases hx:xs=[]
 ·subst hx;cases rx;cases ry;obtain⟨aQ,r1,p1,_⟩:=I.tuple ha;obtain⟨lB,r2,p2,_⟩:=I.tuple hb;cases r1;exact HT.WA p1 p2 ⟨.ref b,H,I,rfl,q0 rfl⟩
 ·exact OW pins s Z H _ _ v u Q I rx ry ⟨a,b,xs,ys,rfl,rfl,ha,hb,hx,hz,q1,λ_=>q2⟩
def Ll(K:PySem.W.Frag):V->Option Int->Option Int->Hp->VK->Prop:=λx lo hi H Q=>∃a xs,x=.ref a/\gC K H a xs /\
 (N1 xs lo hi=xs->Q (.ref a) H)/\∀p,H p=none->Q (.ref p) (upd H p (.tup (N1 xs lo hi)))
theorem Wj:sX X (Ll X.K):=by
 intro pins s Z H x v vl vu lo hi sl Q I rx hs pl pu h;obtain⟨a,xs,rfl,hx,q0,q⟩:=h;by_cases hw:HT.cN xs.length 0 lo=0/\HT.cN xs.length xs.length hi=xs.length
 ·cases rx;obtain⟨aQ,r,ht,hz⟩:=I.tuple hx;have hlen:aQ.toArray.size=xs.length:=by rw[ay];exact r.length.symm
  refine⟨"tuple",_,bz.lookup,ht.typeIs,?_⟩;exact HT.W9 ht hs pl pu (by rw[hlen];exact hw) ⟨.ref a,H,I,rfl,q0 (by unfold N1;rw[hw.1,hw.2];simp)⟩
 ·exact NK pins s Z H _ v vl vu lo hi sl Q I rx hs pl pu ⟨a,xs,rfl,hx,hw,q⟩
theorem QE:j9 X (.builtin "isinstance") (λxs H Q=>∃x t c b,xs=[x,.ty c]/\fM X.K H x t/\PySem.W.kitOne X.K t (.type c)=some b/\Q (.bl b) H):=by
 intro pins s Z H xs us Q I r h;obtain⟨x,t,c,b,rfl,hT,hk,q⟩:=h;obtain⟨u,w',rfl,ru,eZ⟩:=vals2 r;cases (show w'=Value.type c from eZ);exact TM I ru hT hk λtk=>⟨.bl b,H,I.tok tk,rfl,q⟩
theorem Tn(hc:X.calm=true):j9 X (.builtin "all") (λxs H Q=>∃(a:Addr) (bs:List Bool),xs=[.ref a]/\eQ X.K H a (bs.map V.bl)/\Q (.bl (bs.all id)) H):=by
 intro pins s Z H xs us Q I r h;obtain⟨a,bs,rfl,ha,q⟩:=h;obtain⟨u,rfl,ru⟩:=vals1 r;cases ru;obtain⟨aQ,rv,p,hz⟩:=I.list ha;refine call_all_walk ?_;refine gD p.isList ?_;have dO:a≠s.heap.objs.size:=by
  obtain⟨o,e,_⟩:=id p.isList;exact aK (au e)
 have hl:=rv.length;rw[aj] at hl;refine⟨s.heap.objs.size,_,_,_,_,_,λi=>bs.getD i true,rfl,Walks.list (A:=X.A.in1) (I.ok.hd hc) _ a dO aQ.toArray,⟨⟨_,ax _ rfl,rfl,rfl⟩,?_⟩,?_,λh' tk k=>?_⟩
 ·obtain⟨o,e,q1⟩:=id p.isList;exact⟨o,ai _ e,q1⟩
 ·intro i v s' Q' E' hP hQ;have hv:aQ[i]?=some v:=by simpa using hP
  have hi:i<bs.length:=by rw[hl];exact(av.mp hv).1
  obtain⟨u',qV,vN⟩:=rv.get (i:=i) (x:=V.bl bs[i]) (by rw[aD,aq hi];rfl);rw[hv] at qV;cases qV;cases (show v=Value.bool bs[i] from vN);refine bU ?_;have:bs.getD i true=bs[i]:=by simp[List.getD,hi]
  dsimp only at hQ;rw[this] at hQ;exact hQ
 ·have e1:(List.range aQ.toArray.size).all (λi=>bs.getD i true)=bs.all id:=by
   rw[ay,<- hl];rw[bp];simp only[List.all_eq_true,List.mem_range,id];constructor
   ·intro hh x hx;obtain⟨i,hi,rfl⟩:=dj.mp hx;have:=hh i hi;simpa[List.getD,hi] using this
   ·intro hh i hi;have:=hh bs[i] (cL hi);simpa[List.getD,hi] using this
  rw[e1];exact ⟨.bl (bs.all id),H,I.kept (t':=tk) λb o e=>k b o (by
   intro hb;have:b=s.heap.objs.size:=by simpa using hb
   exact absurd (au e) (by rw [this];exact ba _)) (ai _ e),rfl,q⟩
end
end L2

namespace HT
open PySem PyProof.Rows
section
variable{prog:Program}{w:World}{A:Around}{E:Value->Shared->Prop}{s:Shared}
end
end HT
namespace L2
open PySem PySem.Spec PyProof.Rows
section
variable{X:Cx}{e st:Expr}{te ts:TE}{pos p2:Pos}
end
end L2

namespace L2
open PySem PySem.Spec PyProof.Rows
theorem j8.get{P:Program}{w:World}{H:Hp}{h:Heap}{a:Addr}:∀{o:HO},j8 P w H h a o->∃ob,h.get? a=some ob
 |.lst _,x=>by obtain⟨_,_,_,_,e⟩:=x;exact⟨_,e⟩
 |.tup _,x=>by obtain⟨_,_,_,o,e,_⟩:=x;exact⟨o,e⟩
 |.dK _,x=>by obtain⟨_,_,_,_,o,es,ep,e,_⟩:=x;exact⟨o,e⟩
 |.dT _,x=>by obtain⟨_,_,_,_,o,es,ep,e,_⟩:=x;exact⟨o,e⟩
 |.set _ _,x=>by obtain⟨o,es,ep,t,e,_⟩:=x;exact⟨o,e⟩
 |.ins _ _ _,x=>by obtain⟨_,_,_,e,_⟩:=x;exact⟨_,e⟩
 |.own _,x=>x
 |.xd _,x=>by obtain⟨mA,n,_⟩:=x;obtain⟨od,e,_⟩:=DD n;exact⟨od,e⟩
 |.kF _ _,x=>by obtain⟨_,_,_,e⟩:=x;exact⟨_,e⟩
 |.iL _ _,x=>⟨_,x.1⟩
 |.mP _,x=>⟨_,x⟩
 |.met _ _,x=>⟨_,x⟩
 |.ext _,x=>x.2.1
def zt(H':Hp)(h0:Heap)(l:List Env)(e:Value)(C:Addr)(h:Heap):Prop :=
 ∃(ea:Addr) (a0:Value) (B:Heap),e=.ref ea/\Heap.FlyingW B l ea (.ref C) a0 h/\∀b o,h.get? b=some o->b∉eP l->(H' b≠none\/∃o0,h0.get? b=some o0)->B.get? b=some o
def gI(P:Program)(w:World):lT:=λouter H s E e s'=>∃(C:Addr) (H':Hp),s'.os=s.os/\AllBare s'.gens/\Un (eP outer) [] H H' s.heap s'.heap/\ff P w H' s'.heap/\zt H' s.heap outer e C s'.heap/\E (.ref C) none H'
section
variable{X:Cx}{pins:List (Addr×Obj)}{Z:St}{H:Hp}{s s':Shared}{E:XK}{e:Value}
theorem Inv.flew(I:Inv X pins Z H s)(h:gI X.prog X.w X.stack H s E e s'):∃C H',Inv X pins Z H' s'/\zt H' s.heap X.stack e C s'.heap/\E (.ref C) none H':=by
 obtain⟨C,H',ho,hb,hu,bx,fl,hE⟩:=h;exact⟨C,H',I.zw (ch:=[]) ho hu bx hb (by simp),fl,hE⟩
theorem U4(I:Inv X pins Z H s){b:Addr}(hb:b∈eP X.stack):∃o,s.heap.get? b=some o/\∀vs,o.data≠.fields vs:=(I.stack.mem hb).2
theorem zx{lX:Heap}{B:Heap}{ea C:Addr}{a0:Value}(I:Inv X pins Z H s)(cR:X.stack=X.env::X.outer)(hex:X.ex=[])(hf:X.env.frame=some X.env.locals)(nc:∀b o,s.heap.get? b=some o->b∉eP X.stack->(H b≠none\/∃o0,X.cE.heap.get? b=some o0)->B.get? b=some o)(sl:∀b∈eP X.stack,∀o,s.heap.get? b=some o->∃sl,lX.get? b=some { o with slots:=sl })(fw:Heap.FlyingW B X.outer ea (.ref C) a0 lX)(hE:E (.ref C) none H):gI X.prog X.w X.outer X.ij X.cE E (.ref ea) { s with heap:=lX }:=by
 have wo:∀b,b∈eP X.outer->b∈eP X.stack:=λb hb=>by rw[cR];unfold eP at hb ⊢;rw[dy,hf];exact bB _ hb
 have qD:∀b o,X.cE.heap.get? b=some o->b∉eP X.outer->b∉eP X.stack:=λb o e hb z=>by
  rcases az.mp (I.E5 b z) with z|z
  ·exact absurd (au e) (by rw[z];exact ja.mpr I.ok.above)
  ·exact hb z
 have mr:∀b u,H b=some u->b∉eP X.stack:=λb u e z=>by rw[I.Z6 b z] at e;cases e
 have kept:∀b o,s.heap.get? b=some o->b∉eP X.stack->(H b≠none\/∃o0,X.cE.heap.get? b=some o0)->lX.get? b=some o:=λb o e n q=>fw.1 b o (nc b o e n q);have qG:∀b,b∉X.ex:=λb=>by rw[hex];simp
 refine⟨C,H,I.os,I.bare,⟨?_,?_,?_,?_,I.base.fY,I.base.fL,I.base.fZ⟩,?_,⟨ea,a0,B,rfl,fw,?_⟩,hE⟩
 ·exact λb o e n1 n2 _=>kept b o (I.base.keep b o e n1 n2 (qG b)) (qD b o e n2) (.inr ⟨o,e⟩)
 ·intro b o e n1 n2 _;obtain⟨Hc,e1⟩:=I.base.slot b o e n1 n2 (qG b);obtain⟨jQ,e2⟩:=sl b (wo b n2) _ e1;exact⟨jQ,e2⟩
 ·exact λb o e n1 _=>I.base.free b o e n1 (qG b)
 ·intro b o e _;obtain⟨o1,e1⟩:=I.base.there b o e (qG b);by_cases hb:b∈eP X.stack
  ·obtain⟨jQ,e2⟩:=sl b hb _ e1;exact⟨_,e2⟩
  ·exact⟨o1,kept b o1 e1 hb (.inr ⟨o,e⟩)⟩
 ·intro a o e;exact (I.bx a o e).M0 (λb u hb q=>by
   have iW:∃v,H b=some v:=by
    rcases hb with rfl|hb
    ·exact⟨o,e⟩
    ·exact⟨_,hb⟩
   obtain⟨v,hv⟩:=iW;exact kept b u q (mr b v hv) (.inl (by rw [hv];simp))) (λb hb=>hb) (λb xs hb=>hb)
 ·intro b o e n q;rcases q with q|⟨o0,q⟩
  ·obtain⟨v,hv⟩:=mj.mp q;obtain⟨o1,e1⟩:=(I.bx b v hv).get;have z:=nc b o1 e1 (mr b v hv) (.inl (by rw[hv];simp));have z':=fw.1 b o1 z;have:o=o1:=by
    have e':lX.get? b=some o:=e;rw[z'] at e';exact(aF e').symm
   subst this;exact z
  ·obtain⟨o1,e1⟩:=I.base.there b o0 q (qG b);have z:=nc b o1 e1 (qD b o0 q n) (.inr ⟨o0,q⟩);have z':=fw.1 b o1 z;have:o=o1:=by
    have e':lX.get? b=some o:=e;rw[z'] at e';exact(aF e').symm
   subst this;exact z
theorem Ri{h0:Heap}{C:Addr}{Ex:Value->Shared->Prop}(I:Inv X pins Z H s)(fl:zt H h0 X.stack e C s.heap)(IX:∀b o,X.cE.heap.get? b=some o->∃o',h0.get? b=some o')(cR:X.stack=X.env::X.outer)(hex:X.ex=[])(hf:X.env.frame=some X.env.locals)(hE:E (.ref C) none H):wpAny (model X.prog X.w) X.A (leaving X.env e) (λ_ mw=>gI X.prog X.w X.outer X.ij X.cE E e mw) Ex s:=by
 obtain⟨ea,a0,B,rfl,fw,hB⟩:=fl;have XM:=fw;rw[cR] at fw;refine wpAny_leaves_onW (by rw[I.ok.frames,cR]) hf fw λlX ui us=>?_;refine zx I cR hex hf (λb o e n q=>hB b o e n (q.imp id λ⟨o0,q⟩=>IX b o0 q)) (λb hb o e=>?_) ui hE;obtain⟨o1,e1,nf⟩:=U4 I hb;rw[e] at e1;cases e1;exact us b o e nf
theorem UW{h':Heap}{ea C:Addr}{vs:List Value}{Ex:Value->Shared->Prop}(I:Inv X pins Z H s)(hx:Heap.MadeExcOf s.heap h' ea (.ref C) vs)(cR:X.stack=X.env::X.outer)(hex:X.ex=[])(hf:X.env.frame=some X.env.locals)(hE:E (.ref C) none H):wpAny (model X.prog X.w) X.A (leaving X.env (.ref ea)) (λ_ mw=>gI X.prog X.w X.outer X.ij X.cE E (.ref ea) mw) Ex { s with heap:=h' }:=by
 have pC:=I.stack;rw[cR] at pC;have HY:∀env∈(X.env::X.outer),∀b,env.frame=some b->b∈eP X.stack:=λenv he b hb=>by rw[cR];exact jc.mpr ⟨env,he,hb⟩
 refine wpAny_leaves_madeW (s:={ s with heap:=h' }) (base:=PySem.W.hideAll s.heap (eP X.stack)) (h:=s.heap) (by rw[I.ok.frames,cR]) hf (λb o q=>GA _ q) (PySem.W.funFrames_hide pC HY) hx λlX t fw _ _ us=>?_;refine(show gI X.prog X.w X.outer X.ij X.cE E (.ref ea) { s with heap:=lX } from zx I cR hex hf (λb o e n _=>Ao _ e n) (λb hb o e=>?_) fw hE);obtain⟨o1,e1,nf⟩:=U4 I hb;rw[e] at e1;cases e1;exact us b o (hx.keeps b o e) nf
theorem Tc{l:List Env}{H H':Hp}{h0 h h1 B:Heap}{Pg:Program}{w:World}(u:Un (eP l) [] H H' h0 h)(ok:ff Pg w H' h)(hB:∀b o,h.get? b=some o->b∉eP l->(H' b≠none\/∃o0,h0.get? b=some o0)->B.get? b=some o)(st:B.StaysIn h1)(us:h.UpToSlots h1)(Br:∀b∈eP l,H' b=none/\∃o,h.get? b=some o/\∀vs,o.data≠.fields vs):Un (eP l) [] H H' h0 h1/\ff Pg w H' h1/\∀b o,h1.get? b=some o->b∉eP l->(H' b≠none\/∃o0,h0.get? b=some o0)->B.get? b=some o:=by
 have mr:∀b u,H' b=some u->b∉eP l:=λb u e z=>by rw[(Br b z).1] at e;cases e
 have kept:∀b o,h.get? b=some o->b∉eP l->(H' b≠none\/∃o0,h0.get? b=some o0)->h1.get? b=some o:=λb o e n q=>st b o (hB b o e n q);have BG:∀b∈eP l,∀o,h.get? b=some o->∃sl,h1.get? b=some { o with slots:=sl }:=λb hb o e=>by
  obtain⟨_,o1,e1,nf⟩:=Br b hb;rw[e] at e1;cases e1;exact us b o e nf
 refine⟨⟨?_,?_,u.free,?_,u.fY,u.fL,u.fZ⟩,?_,?_⟩
 ·exact λb o e n1 n2 n3=>kept b o (u.keep b o e n1 n2 n3) n2 (.inr ⟨o,e⟩)
 ·intro b o e n1 n2 n3;obtain⟨Hc,e1⟩:=u.slot b o e n1 n2 n3;obtain⟨jQ,e2⟩:=BG b n2 _ e1;exact⟨jQ,e2⟩
 ·intro b o e n;obtain⟨o1,e1⟩:=u.there b o e n;by_cases hb:b∈eP l
  ·obtain⟨jQ,e2⟩:=BG b hb _ e1;exact⟨_,e2⟩
  ·exact⟨o1,kept b o1 e1 hb (.inr ⟨o,e⟩)⟩
 ·intro a o e;exact (ok a o e).M0 (λb u hb q=>by
   have iW:∃v,H' b=some v:=by
    rcases hb with rfl|hb
    ·exact⟨o,e⟩
    ·exact⟨_,hb⟩
   obtain⟨v,hv⟩:=iW;exact kept b u q (mr b v hv) (.inl (by rw [hv];simp))) (λb hb=>hb) (λb xs hb=>hb)
 ·intro b o e n q;have:∃o1,h.get? b=some o1:=by
   rcases q with q|⟨o0,q⟩
   ·obtain⟨v,hv⟩:=mj.mp q;exact(ok b v hv).get
   ·exact u.there b o0 q (by simp)
  obtain⟨o1,e1⟩:=this;have z:=hB b o1 e1 n q;rw[st b o1 z] at e;cases e;exact z
section
variable{s':Shared}
structure Lies(X:Cx)(H H':Hp)(s:Shared)(B:Heap)(ea C:Addr)(a0:Value)(s':Shared):Prop where
 os:s'.os=s.os
 bare:AllBare s'.gens
 un:Un (eP X.stack) [] H H' s.heap s'.heap
 bx:ff X.prog X.w H' s'.heap
 nc:∀b o,s'.heap.get? b=some o->b∉eP X.stack->(H' b≠none\/∃o0,s.heap.get? b=some o0)->B.get? b=some o
theorem Lies.inv{H':Hp}{B:Heap}{ea C:Addr}{a0:Value}(I:Inv X pins Z H s)(l:Lies X H H' s B ea C a0 s'):Inv X pins Z H' s':=I.zw (ch:=[]) l.os l.un l.bx l.bare (by simp)
theorem leave_held{H':Hp}{B:Heap}{ea C:Addr}{a0:Value}{Ex:Value->Shared->Prop}(I:Inv X pins Z H s)(l:Lies X H H' s B ea C a0 s')(hh:Heap.HeldW B X.stack ea (.ref C) a0 X.env.locals s'.heap)(cR:X.stack=X.env::X.outer)(hex:X.ex=[])(hf:X.env.frame=some X.env.locals)(hE:E (.ref C) none H'):wpAny (model X.prog X.w) X.A (leaving X.env (.ref ea)) (λ_ mw=>gI X.prog X.w X.outer X.ij X.cE E (.ref ea) mw) Ex s':=by
 have J:=l.inv I;have wH:=hh;rw[cR] at wH;unfold leaving;refine aa (wpAny_noteFrame_againW hf wH.2.2.2 ?_);refine wpAny_landsW wH λlX fl us=>?_;obtain⟨k1,k2,⟨_,_,k3⟩,k4⟩:=fl;refine zx J cR hex hf (λb o e n q=>l.nc b o e n (q.imp id λ⟨o0,q⟩=>I.base.there b o0 q (by rw[hex];simp))) (λb hb o e=>?_) ⟨k1,k2,k3,k4⟩ hE;obtain⟨o1,e1,nf⟩:=U4 J hb;rw[e] at e1;cases e1;exact us b o e nf
end
def uU(X:Cx)(Ξ:XK):Prop:=∀(pins:List (Addr×Obj)) (Z:St) (H:Hp) (s:Shared) (h':Heap) (ea C:Addr) (vs:List Value),Inv X pins Z H s->Heap.MadeExcOf s.heap h' ea (.ref C) vs->Ξ (.ref C) none H->X.xe (.ref ea) { s with heap:=h' }
def Z3(X:Cx)(Ξ:XK):Prop:=∀(pins:List (Addr×Obj)) (Z:St) (H H':Hp) (s s':Shared) (B:Heap) (ea C:Addr) (a0:Value),Inv X pins Z H s->Lies X H H' s B ea C a0 s'->Heap.HeldW B X.stack ea (.ref C) a0 X.env.locals s'.heap->Ξ (.ref C) none H'->X.xe (.ref ea) s'
def NX(C:Addr)(Ξ:XK)(t:TA):TS:=λ_ Z H=>t Z H λvs H1=>vs.length<=sizeLine/\Ξ (.ref C) none H1
theorem Sw{x:Str}{C:Addr}{B newId fx:String}{bm:List Value}{np eW pos:Pos}{iN:Expr}{rest:List Expr}{t:TA}{Ξ:XK}(hc:X.calm=true)(O:OwnCls x C bm newId X.mg X.base)(FB:ExcBaseFacts B newId fx bm)(hg:Gl X x)(ha:PA X (iN::rest) t)(hr:uU X Ξ)(he:starEach (iN::rest) X.env=(false,eval iN X.env)::starEach rest X.env)(fy:(backTo eW (starEach rest X.env)).any (·.1)=false)(hd:(x==("__debug__":Str))=false) :
  PS X (.Raise (some (.Call (.Name x np) (iN::rest) [] eW)) none pos) (NX C Ξ t):=by
 intro pins s Z H D I h;obtain⟨tl,N,nm,q,bs,hdct,sn,sub,ab,col,dd,k0,k1,k2,k3,k5,mN,hC,hN,tX,T⟩:=O.obj;refine wpAny_Raise_call_subT (C:=C) (nm:=nm) (q:=q) (N:=N) (bs:=bs) (bm:=tl) (hdct:=hdct) (sn:=sn) (sub:=sub) (ab:=ab) (col:=col) (dd:=dd) (k0:=k0) (k1:=k1) (k2:=k2) (k3:=k3) (k5:=k5)
  FB (mN:=mN) (T.hasType FB.hasBase) (I.ok.hd hc) (by rw[he];show(false||(backTo eW (starEach rest X.env)).any (·.1))=false;rw[fy];rfl) tX (H9 I hg O.bound ⟨rfl,?_⟩ hd)
 have h':=ha eW pins s Z H _ I h;rw[he] at h' ⊢;refine Calls.evalArgs_plain (bg h' (λvs eT gT=>?_) λ_ _ y=>y);obtain⟨ws,H1,I1,rv,hz,hE⟩:=gT;exact⟨rfl,by rw[<- rv.length];exact hz,I1.bk _ _ hC,hN.keeps I1.bk,T.keeps I1.bk,λh2 ea hm=>hr pins Z H1 eT h2 ea C vs I1 hm hE⟩
def N5(X:Cx)(pins:List (Addr×Obj))(xe:Value->Shared->Prop):Cx:={ X with pn:=X.pn++pins,xe:=xe }
def A3(X:Cx)(ea:Addr):Cx:={ X with A:=X.A.mark (some (.ref ea)),calm:=false,xe:=λ_ _=>False }
theorem Inv.LK{xe:Value->Shared->Prop}(I:Inv X pins Z H s):Inv (N5 X pins xe) [] Z H s :=
 ⟨⟨I.ok.mod,I.ok.kind,I.ok.glob,I.ok.blt,I.ok.above,I.ok.inj,I.ok.has,I.ok.nF,I.ok.hd,I.ok.frames,I.ok.nS,I.ok.rZ,I.ok.bs,I.ok.lP,I.ok.jh,I.ok.jM,I.ok.C2,I.ok.lY⟩,I.os,I.bare,I.base,I.loc,I.cell,I.free,I.dA,
  λp hp=>I.pin p (by simpa [N5] using hp),I.bx,I.len⟩
theorem Inv.S7{xe:Value->Shared->Prop}{gP:List (Addr×Obj)}(I:Inv (N5 X pins xe) gP Z H s):Inv X pins Z H s :=
 ⟨⟨I.ok.mod,I.ok.kind,I.ok.glob,I.ok.blt,I.ok.above,I.ok.inj,I.ok.has,I.ok.nF,I.ok.hd,I.ok.frames,I.ok.nS,I.ok.rZ,I.ok.bs,I.ok.lP,I.ok.jh,I.ok.jM,I.ok.C2,I.ok.lY⟩,I.os,I.bare,I.base,I.loc,I.cell,I.free,I.dA,
  λp hp=>I.pin p (dk _ hp),I.bx,I.len⟩
theorem Inv.EW{ea:Addr}(I:Inv X pins Z H s):Inv (A3 X ea) pins Z H s :=
 ⟨⟨I.ok.mod,I.ok.kind,I.ok.glob,I.ok.blt,I.ok.above,I.ok.inj,I.ok.has,I.ok.nF,λz=>(by cases z),I.ok.frames,I.ok.nS,I.ok.rZ,I.ok.bs,I.ok.lP,I.ok.jh,I.ok.jM,I.ok.C2,I.ok.lY⟩,I.os,I.bare,I.base,I.loc,I.cell,I.free,I.dA,I.pin,I.bx,I.len⟩
theorem Inv.Q3{ea:Addr}(J:X.Ok)(I:Inv (A3 X ea) pins Z H s):Inv X pins Z H s :=
 ⟨J,I.os,I.bare,I.base,I.loc,I.cell,I.free,I.dA,I.pin,I.bx,I.len⟩
theorem SP.S7{xe:Value->Shared->Prop}{D:Ends}{f:Flow}(h:SP (N5 X pins xe) [] D f s):SP X pins D f s:=by
 cases f with
 |next=>obtain⟨a,b,I,q⟩:=h;exact⟨a,b,I.S7,q⟩
 |brk=>obtain⟨a,b,I,q⟩:=h;exact⟨a,b,I.S7,q⟩
 |cont=>obtain⟨a,b,I,q⟩:=h;exact⟨a,b,I.S7,q⟩
 |ret u=>obtain⟨v,a,b,I,r,q⟩:=h;exact⟨v,a,b,I.S7,r,q⟩
theorem SP.Q3{ea:Addr}{D:Ends}{f:Flow}(J:X.Ok)(h:SP (A3 X ea) pins D f s):SP X pins D f s:=by
 cases f with
 |next=>obtain⟨a,b,I,q⟩:=h;exact⟨a,b,I.Q3 J,q⟩
 |brk=>obtain⟨a,b,I,q⟩:=h;exact⟨a,b,I.Q3 J,q⟩
 |cont=>obtain⟨a,b,I,q⟩:=h;exact⟨a,b,I.Q3 J,q⟩
 |ret u=>obtain⟨v,a,b,I,r,q⟩:=h;exact⟨v,a,b,I.Q3 J,r,q⟩
def V6(X:Cx)(D:Ends)(C:Addr)(H:Hp):List ExceptHandler->Prop
 |.ExceptHandler (some (.Name x _)) none (sx::mQ) _::rest=>Gl X x/\(x==("__debug__":Str))=false/\∃C' b,X.mg x=some (.ref C')/\PySem.W.exmOne X.K (.ref C) (.ref C')=some b /\
   (if b=true then ∃t:TS,(∀ea,hJ (A3 X ea) (sx::mQ) t)/\t D (List.replicate X.N.length none) H else V6 X D C H rest)
 |[]=>∃Ξ:XK,Z3 X Ξ/\Ξ (.ref C) none H
 |_=>False
end
end L2

namespace L2
open PySem PySem.Spec PyProof.Rows
section
variable{X:Cx}{pins:List (Addr×Obj)}{Z:St}{H H':Hp}{s s':Shared}{e:Value}{D:Ends}
def Z5(X:Cx)(pins:List (Addr×Obj))(D:Ends)(hs:List ExceptHandler):Value->Shared->Prop:=λe bD =>
 wpAny (model X.prog X.w) X.A (noteFrame e X.env) (λ_ eT=>wpAny (model X.prog X.w) X.A (setFlight e none) (λ_ dS=>wpAny (model X.prog X.w) X.A (handleBy e X.env hs) (SP X pins D) X.xe dS) X.xe eT) X.xe bD
theorem Lies.step{B h1:Heap}{ea C:Addr}{a0:Value}(I:Inv X pins Z H s)(l:Lies X H H' s B ea C a0 s')(st:B.StaysIn h1)(us:s'.heap.UpToSlots h1):Lies X H H' s B ea C a0 { s' with heap:=h1 }:=by
 have J:=l.inv I;obtain⟨u,ok,ib⟩:=Tc l.un l.bx l.nc st us λb hb=>⟨J.Z6 b hb,U4 J hb⟩
 exact⟨l.os,l.bare,u,ok,ib⟩
theorem QI{s:Shared}{B:Heap}{l:List Env}{ea L:Addr}{cls a0:Value}{A:Around}{M:Model}{E:Value->Shared->Prop}{Q:Unit->Shared->Prop}(fw:Heap.FlyingW B l ea cls a0 s.heap)(h:∀h',Heap.HeldW B l ea cls a0 L h'->(∀b o,s.heap.get? b=some o->(∀vs,o.data≠.fields vs)->h'.get? b=some o)->Q () { s with heap:=h' }):wpAny M A (setFlight (.ref ea) (some L)) Q E s:=by
 obtain⟨f1,f2,f3,oe,vs,T,oT,ts,he,ko,hd,h1,pz,ub,hT,pD,h3⟩:=fw;have qY:3<ts.size:=(Array.getElem?_eq_some_iff.mp h3).1;have other:∀b,b≠T->(s.heap.update T (Obj.mapFields (·.setIfInBounds 3 ((some L).elim Value.none λf=>rawInt f)))).get? b=s.heap.get? b :=
  λb hb=>bL _ _ (bR hb)
 have ji:∀b o,s.heap.get? b=some o->(∀vs,o.data≠.fields vs)->b≠T:=λb o hb rj q=>by
  rw[q,hT] at hb;injection hb with hb;subst hb;exact rj ts pD
 unfold setFlight;refine aa (jw he hd h1 ?_);rw[aG (show(Value.ref T != Value.none)=true from by simp)];refine cY hT pD qY (h _ ⟨λb o wM=>(other b λq=>by rw [q,pz] at wM;cases wM).trans (f1 b o wM),f2,
  f3.of_keeps λb o hb rj=>⟨o,(other b (ji b o hb rj)).trans hb,rfl⟩,?_⟩ λb o hb rj=>(other b (ji b o hb rj)).trans hb)
 exact⟨oe,vs,T,_,_,(other ea (bR ub)).trans he,ko,hd,h1,pz,ub,aS _ hT (cC (bh pD _)),bh pD _,by simp[qY]⟩
theorem Dx{B:Heap}{ea C:Addr}{a0:Value}(hf:X.env.frame=some X.env.locals):∀(hs:List ExceptHandler) (s':Shared),Inv X pins Z H s->Lies X H H' s B ea C a0 s'->Heap.FlyingW B X.stack ea (.ref C) a0 s'.heap->V6 X D C H' hs ->
  wpAny (model X.prog X.w) X.A (handleBy (.ref ea) X.env hs) (SP X pins D) X.xe s'
 |[],s',I,l,fw,t=>by
  obtain⟨Ξ,hh,hE⟩:=t;refine wpAny_handleBy_nil ?_;unfold PySem.passOn;obtain⟨f1,f2,f3,oe,vs,T,oT,ts,he,ko,hd,h1,_⟩:=id fw;refine aa (jw he hd h1 ?_);rw[aE (by simp),hf];refine aa (QI fw λh2 held k=>wpAny_throw ?_);have l2:=l.step I held.1 (λb o hb hn=>⟨o.slots,k b o hb hn⟩);exact hh pins Z H H' s _ B ea C a0 I l2 held hE
 |.ExceptHandler none _ _ _::_,_,_,_,_,t=>t.elim
 |.ExceptHandler (some e) nm bd pos::rest,s',I,l,fw,t=>by
  cases e
  case Name x np =>
   cases nm with
   |some y=>exact t.elim
   |none =>
    cases bd with
    |nil=>exact t.elim
    |cons sx mQ =>
     obtain⟨hg,fQ,C',b,hm,hx,q⟩:=t;have J:=l.inv I;have JM:Inv (A3 X ea) pins Z H' s':=J.EW;have LT:PySem.W.Looks (model X.prog X.w) s'.heap (typeOf (.ref ea)) (.ref C):=λA Q E s2 k q=>by
      obtain⟨ob,ho,hc⟩:=fw.there;exact wpAny_typeOf_ref (k _ _ ho) (by rw[hc];exact q)
     refine wpAny_handleBy_cons (codeAny_handlers_test ?_) (by intro z;cases z);refine H9 (X:=A3 X ea) JM hg hm ?_ fQ;refine(PySem.W.exm_one (M:=model X.prog X.w) J.fu LT hx).here ?_;cases b with
     |false =>
      simp only[Bool.false_eq_true,if_false] at q;exact Dx hf rest s' I l fw q
     |true =>
      simp only[if_true] at q;obtain⟨t,ht,hq⟩:=q;refine codeAny_handlers_suite ?_;refine wpAny_setFlight_noneW fw.1 fw.2.2.1 fw.2.2.2.at λh2 k1 k2 k3 k4=>?_;have l2:=l.step I k1 (λb o hb hn=>⟨o.slots,k4 b o hb hn⟩);have J2:=l2.inv I;have J3:Inv (A3 X ea) pins (List.replicate X.N.length none) H' { s' with heap:=h2 }:=(J2.weak (by rw [gN,J2.len]) λi v z=>by
       rw [cM] at z;split at z <;> cases z).EW
      refine bg (ht ea pins _ _ H' D J3 hq) (λf s2 hf=>hf.Q3 I.ok) λ_ _ z=>z.elim
  all_goals exact t.elim
theorem Si{hs:List ExceptHandler}{Ξ:XK}(cR:X.stack=X.env::X.outer)(hf:X.env.frame=some X.env.locals)(hT:∀C H',Ξ (.ref C) none H'->V6 X D C H' hs) :
  Passes (gI X.prog X.w) (N5 X pins (Z5 X pins D hs)) Ξ:=by
 intro gP Z H s e s' I0 h;have I:Inv X pins Z H s:=I0.S7;obtain⟨C,H',ho,hb,hu,bx,⟨ea,a0,B,rfl,fw,hB⟩,hE⟩:=h;have l:Lies X H H' s B ea C a0 s':=⟨ho,hb,hu,bx,hB⟩
 have fw:Heap.FlyingW B X.stack ea (.ref C) a0 s'.heap:=fw;show Z5 X pins D hs (.ref ea) s';unfold Z5;have ui:=fw;rw[cR] at ui;refine wpAny_looks_onW (by rw[I.ok.frames,cR]) hf ui λh1 held us=>?_;have l1:=l.step I held.1 us;refine wpAny_landsW held λh2 fl GQ=>?_;have l2:=l1.step I fl.1 GQ;rw[<- cR] at fl;exact Dx hf hs _ I l2 fl (hT C H' hE)
theorem Nl{hs:List ExceptHandler}{h₀:ExceptHandler}{body:List Stmt}{pos:Pos}{t:Ends->TS}{Ξ:Ends->XK}(cR:X.stack=X.env::X.outer)(hf:X.env.frame=some X.env.locals)(hb:∀pins D,(∀C H',Ξ D (.ref C) none H'->V6 X D C H' (h₀::hs))->hJ (N5 X pins (Z5 X pins D (h₀::hs))) body (t D)) :
  PS X (.Try body (h₀::hs) [] [] pos) (λD Z H=>(∀C H',Ξ D (.ref C) none H'->V6 X D C H' (h₀::hs))/\t D D Z H):=by
 intro pins s Z H D I ⟨hT,h⟩;refine wpAny_Try_except (bg (hb pins D hT [] s Z H D I.LK h) (λf s1 q=>?_) λe s1 q=>q);have q:=q.S7;cases f with
 |next =>
  obtain⟨bI,H',I',q⟩:=q;exact bS (iR ⟨bI,H',I',q⟩) λ_ _ z=>z
 |brk=>exact q
 |cont=>exact q
 |ret u=>exact q
end
end L2

namespace L2
open PySem PySem.Spec PyProof.Rows
section
variable{M:Model}{A:Around}{E:Value->Shared->Prop}{env:Env}{s:Shared}
end
end L2

namespace L2
open PySem PySem.Spec PyProof.Rows
theorem W8{B B' h h2:Heap}{C:Addr}(hB:∀b,b≠C->B'.get? b=B.get? b)(hh:∀b,b≠C->h2.get? b=h.get? b){oC:Obj}(hC:B.get? C=some oC):∀{l:List Env},h.FunFrames B l->h2.FunFrames B' l
 |[],x=>x
 |env::r,⟨x1,⟨L,o,x2,x3,x4,x5⟩,x6⟩=>by
  have hL:L≠C:=λz=>by rw[z,hC] at x3;cases x3
  exact⟨x1,⟨L,o,x2,(hB L hL).trans x3,(hh L hL).trans x4,x5⟩,W8 hB hh hC x6⟩
section
variable{X:Cx}{pins:List (Addr×Obj)}{Z:St}{H H':Hp}{s s':Shared}
theorem Lies.zz{B h2:Heap}{ea Cc C L:Addr}{a0:Value}{o o2:Obj}(l:Lies X H H' s B ea Cc a0 s')(held:Heap.HeldW B X.stack ea (.ref Cc) a0 L s'.heap)(sb:Heap.SameBut C s'.heap h2)(ud:h2.get? C=some o2)(AO:o2.isFreed=false)(hn:H C=none)(hs:s.heap.get? C=some o)(nf:C∉eP X.stack) :
  ∃B',Lies X H H' { s with heap:=s.heap.update C λ_=>o2 } B' ea Cc a0 { s' with heap:=h2 }/\Heap.HeldW B' X.stack ea (.ref Cc) a0 L h2:=by
 obtain⟨oC,eC⟩:=l.un.there C o hs (by simp);have n':H' C=none:=l.un.free C o hs hn (by simp);have hB:B.get? C=some oC:=l.nc C oC eC nf (.inr ⟨o,hs⟩);have b1:(B.update C λ_=>o2).get? C=some o2:=aS _ hB AO;have b2:∀b,b≠C->(B.update C λ_=>o2).get? b=B.get? b:=λb hb=>bL _ _ (bR hb);have s1:(s.heap.update C λ_=>o2).get? C=some o2:=aS _ hs AO;have s2:∀b,b≠C->(s.heap.update C λ_=>o2).get? b=s.heap.get? b:=λb hb=>bL _ _ (bR hb);have mI:∀b,b≠C->h2.get? b=s'.heap.get? b:=sb.2;have ne:∀{b:Addr},B.get? b=none->b≠C:=λ{b} h z=>by rw[z,hB] at h;cases h
 obtain⟨f1,f2,f3,oe,vs,T,oT,ts,he,ko,hd,h1,pz,ub,hT,pD,h3⟩:=held;refine⟨B.update C λ_=>o2,⟨l.os,l.bare,⟨λb u e n1 n2 n3=>?_,λb u e n1 n2 n3=>?_,λb u e n1 n2=>?_,λb u e n1=>?_,l.un.fY,l.un.fL,l.un.fZ⟩,?_,λb u e n1 q=>?_⟩,λb u e=>?_,(b2 ea (ne f2)).trans f2,W8 b2 mI hB f3,oe,vs,T,oT,ts,(mI ea (ne f2)).trans he,ko,hd,h1,(b2 T (ne pz)).trans pz,ub,(mI T (ne pz)).trans hT,pD,h3⟩
 ·by_cases z:b=C
  ·subst z;rw[show({ s with heap:=s.heap.update b λ_=>o2 }:Shared).heap.get? b=_ from s1] at e;cases e;exact ud
  ·exact(mI b z).trans (l.un.keep b u ((s2 b z).symm.trans e) n1 n2 n3)
 ·have z:b≠C:=λz=>nf (z▸n2);obtain⟨sl,q⟩:=l.un.slot b u ((s2 b z).symm.trans e) n1 n2 n3;exact⟨sl,(mI b z).trans q⟩
 ·by_cases z:b=C
  ·subst z;exact n'
  ·exact l.un.free b u ((s2 b z).symm.trans e) n1 n2
 ·by_cases z:b=C
  ·subst z;exact⟨_,ud⟩
  ·obtain⟨w,q⟩:=l.un.there b u ((s2 b z).symm.trans e) n1;exact⟨w,(mI b z).trans q⟩
 ·intro a u e;exact (l.bx a u e).M0 (λb w hb q=>by
   have:b≠C:=λz=>by
    rcases hb with rfl|hb
    ·rw[z,n'] at e;cases e
    ·rw[z,n'] at hb;cases hb
   exact (mI b this).trans q) (λb hb=>hb) (λb xs hb=>hb)
 ·by_cases z:b=C
  ·subst z;rw[show({ s' with heap:=h2 }:Shared).heap.get? b=_ from ud] at e;cases e;exact b1
  ·refine(b2 b z).trans (l.nc b u ((mI b z).symm.trans e) n1 ?_);rcases q with q|⟨o0,q⟩
   ·exact .inl q
   ·exact .inr ⟨o0,(s2 b z).symm.trans q⟩
 ·by_cases z:b=C
  ·subst z;rw[b1] at e;cases e;exact ud
  ·exact(mI b z).trans (f1 b u ((b2 b z).symm.trans e))
end
end L2

namespace L2
open PySem PySem.Spec PyProof.Rows
def Ag(K:PySem.W.Frag)(a:Addr):It :=
 ⟨λi H=>∃xs x,eQ K H a xs/\xs[i]?=some x,λi H v H'=>∃p x,H p=none/\v=.ref p/\(∀xs,eQ K H a xs->xs[i]?=some x)/\H'=upd H p (.tup [.int i,x]),λi H=>∃xs,eQ K H a xs/\xs.length<=i⟩
theorem UE{P:Program}{w:World}{K:PySem.W.Frag}{elts:List Expr}{x1:Nat}{tp:Pos}(a e it:Addr)(Bt:e≠it):Turn P w K (.Tuple elts x1 tp) (Ag K a) [e,it] e (λi h=>(∃old,IsEnum h e it i old)/\h.IsListIter it a i) where
 mem:=by simp
 obj:=λi h st b hb=>by
  obtain⟨⟨old,h1⟩,o,h2,c,d⟩:=st;rcases az.mp hb with z|z
  ·subst z;exact ⟨_,h1,λv z=>by
    have z':Data.fields _=Data.cell v:=z;cases z'⟩
  ·have z:b=it:=by simpa using z
   subst z;exact⟨o,h2,λv z=>by rw[d] at z;cases z⟩
 keep:=λi h h' st k=>by
  obtain⟨⟨old,h1⟩,h2⟩:=st;exact⟨⟨old,k e (by simp) _ h1⟩,h2.at λo x=>k it (by simp) o x⟩
 item:=by
  intro X hP hw hK hc i pins s Z H E I hf st hg;subst hP hw hK;obtain⟨⟨old,h1⟩,h2⟩:=st;obtain⟨xs,x,hq,hx⟩:=hg;obtain⟨aQ,rv,p,hz⟩:=I.list hq;obtain⟨u,hu,ru⟩:=rv.get hx;obtain⟨e0,e1,e2,e3,e4,e5⟩:=hf e (by simp);obtain⟨f0,f1,f2,f3,f4,f5⟩:=hf it (by simp);refine wpAny_pyNext_enum_item h1 h2 p.isList (x:=u) (by simpa using hu) Bt λh' nj wD qW Bf rq=>?_;refine⟨_,rfl,wpAny_letOwnedTupleGo_enum nj λrP Ii gA=>?_⟩;have gA:Heap.SameBut e h' rP:=gA;have elt:e<s.heap.objs.size:=au h1;have kp:∀b o,b≠e->b≠it->s.heap.get? b=some o->rP.get? b=some o:=λb o b1 b2 q=>(gA.2 b b1).trans (rq b o b1 b2 q);have hn:H s.heap.objs.size=none:=I.bx.fresh (ak _);have vF:rP.get? s.heap.objs.size=some { cls:=.type "tuple",data:=.seq #[.int i s.toks,u] }:=(gA.2 _ (bH elt)).trans qW;have ne:∀b u',H b=some u'->b≠e/\b≠it:=λb u' q=>And.intro (λ(z:b=e)=>by rw[z,e0] at q;cases q) (λ(z:b=it)=>by rw[z,f0] at q;cases q);have bx:ff X.prog X.w (upd H s.heap.objs.size (.tup [.int i,x])) rP:=λb o q=>by
   by_cases hb:b=s.heap.objs.size
   ·subst hb;rw[l0] at q;cases q;exact⟨by show 2<=sizeLine;decide,[.int i s.toks,u],.cons ⟨_,rfl⟩ (.cons ru .nil),_,vF,rfl,⟨_,rfl⟩,rfl⟩
   ·rw[f9 hb] at q;refine(I.bx b o q).M0 (λc v hc q'=>?_) (λc q'=>by rw[f9 (j4 q' hn)];exact q') λc ys q'=>by rw[f9 (j4 q' hn)];exact q'
    rcases hc with z|z
    ·subst z;exact kp _ _ (ne _ _ q).1 (ne _ _ q).2 q'
    ·exact kp _ _ (ne _ _ z).1 (ne _ _ z).2 q'
  have I2:Inv X pins Z (upd H s.heap.objs.size (.tup [.int i,x])) { s with heap:=rP,toks:=s.toks+1 }:=by
   refine I.step (g':=s.gens) (d':=s.drawn) (t':=s.toks+1) (ch:=[e,it]) (λb hb=>?_) (λb o _ _ hb q _=>kp b o (λz=>hb (by simp[z])) (λz=>hb (by simp[z])) q) (λb o _ _ hb q _=>⟨o.slots,kp b o (λz=>hb (by simp[z])) (λz=>hb (by simp[z])) q⟩)
    (λb o _ q n=>by rw[f9 (aK (au q))];exact n) (λb o hb q=>⟨o,kp b o (λz=>hb (by simp[z])) (λz=>hb (by simp[z])) q⟩)
    (λb ys q=>by rw[f9 (j4 q hn)];exact q) (λb o' ys q=>by rw[f9 (j4 q hn)];exact q) (λb ps q=>⟨#[],by rw[f9 (j4 q hn),q];simp⟩) (λm hm=>?_) bx I.bare
   ·rcases az.mp hb with z|z
    ·subst z;exact⟨e3,e1,e4,e5⟩
    ·have z:b=it:=by simpa using z
     subst z;exact⟨f3,f1,f4,f5⟩
   ·obtain⟨o,es,ep,ho,r⟩:=hm;exact⟨o,es,ep,kp _ o (bR e1) (bR f1) ho,r⟩
  refine⟨.ref s.heap.objs.size,_,I2,rfl,⟨s.heap.objs.size,x,hn,rfl,λys hy=>by rw[I.yZ hy hq];exact hx,rfl⟩,⟨⟨u,by simpa using Ii⟩,wD.at λo y=>(gA.2 it Bt.symm).trans y⟩,λb hb=>?_⟩;have iW:b<s.heap.objs.size:=by
   rcases az.mp hb with z|z
   ·subst z;exact elt
   ·have z:b=it:=by simpa using z
    subst z;obtain⟨o,h2,_⟩:=h2;exact au h2
  rw[f9 (aK iW)];exact(hf b hb).1
 done:=by
  intro X hP hw hK hc i pins s Z H E I hf st hg;subst hP hw hK;obtain⟨⟨old,h1⟩,h2⟩:=st;obtain⟨xs,hq,hx⟩:=hg;obtain⟨aQ,rv,p,hz⟩:=I.list hq;obtain⟨f0,f1,f2,f3,f4,f5⟩:=hf it (by simp);have hl:=rv.length;exact wpAny_pyNext_enum_end (I.ok.hd hc) h1 h2 p.isList (by simp;omega) λh' eb=>⟨rfl,I.turned (t':=s.toks) (λb o hb e=>eb b o hb e) f0 f1 f3 f4 f5⟩
 self:=λ_ _ _ _ _ st h=>by
  obtain⟨⟨old,h1⟩,h2⟩:=st;exact wpAny_pyIter_enum h1 h
section
variable{X:Cx}
theorem VG{l:Expr}{ta:TA}{p pos tp:Pos}{elts:List Expr}{x1:Nat}(hg:Gl X "enumerate")(hm:X.mg "enumerate"=none)(ha:PA X [l] ta)(hs:starEach [l] X.env=[(false,eval l X.env)]) :
  PI X (.Tuple elts x1 tp) (.Call (.Name "enumerate" p) [l] [] pos) (λZ H R=>ta Z H λvs H1=>∃a,vs=[.ref a]/\(∃xs,eQ X.K H1 a xs)/\R (Ag X.K a) H1):=by
 intro pins s Z H R I h;refine Call_ (E8 I hg hm PyProof.Rows.boot_enumerate (bu (bS (ha pos pins s Z H _ I h) λus s1 aX=>?_) hs rfl));obtain⟨vs,H1,I1,r1,q1⟩:=aX;obtain⟨a,e,⟨xs,hq⟩,q⟩:=q1;subst e;cases r1 with
 |cons r rr =>
  cases rr;cases r;obtain⟨aQ,rv,p,hz⟩:=I1.list hq;refine call_enumerate_list p.isList λh' he hit hsz hk=>wpAny_pyIter_enum he ?_;refine⟨s1.heap.objs.size+1,[s1.heap.objs.size+1,s1.heap.objs.size],_,_,H1,rfl,I1.kept (t':=s1.toks) hk,UE a _ _ (by simp),⟨⟨_,he⟩,hit⟩,λb hb=>?_,q⟩;have iW:s1.heap.objs.size<=b:=by
   rcases az.mp hb with z|z
   ·rw[z];exact fC _
   ·have z:b=s1.heap.objs.size:=by simpa using z
    rw[z];exact ak _
  exact I1.Y7 iW (I1.bx.fresh iW)
theorem KZ{e:Expr}{t:TE}{pos:Pos}(he:PE X e t):PE X (.FormattedValue e (-1) none pos) (λZ H Q=>t Z H λx H1=>(∃i,x=.int i/\i.natAbs.log2<1920/\Q (.str (toString i)) H1)\/∃y,x=.str y/\y.length<=sizeLine/\Q (.str y) H1):=by
 intro pins s Z H Q I h;refine wpAny_FormattedValue_plain (bS (he pins s Z H _ I h) λv s1 aX=>?_);obtain⟨x,H1,I1,r1,q1⟩:=aX;rcases q1 with⟨i,rfl,hd,q⟩|⟨y,rfl,hy,q⟩
 ·obtain⟨t,rfl⟩:=r1;exact wpAny_formatField_int hd ⟨.str _,H1,I1.tok _,⟨_,rfl⟩,q⟩
 ·obtain⟨t,rfl⟩:=r1;exact wpAny_formatField_str ⟨.str _,H1,I1,⟨_,rfl⟩,q⟩ ⟨.str _,H1,I1.tok _,⟨_,rfl⟩,q⟩ hy
inductive pY(X:Cx):List Expr->List TE->Prop
 |nil:pY X [] []
 |cons {e:Expr} {t:TE} {es:List Expr} {ts:List TE} (h:PE X e t) (r:pY X es ts):pY X (e::es) (t::ts)
def uG:List TE->St->Hp->Str->(Str->Hp->Prop)->Prop
 |[],_,H,acc,Q=>Q acc H
 |t::ts,Z,H,acc,Q=>t Z H λx H1=>∃y,x=.str y/\(acc++y).length<=sizeLine/\uG ts Z H1 (acc++y) Q
theorem CQ{pins:List (Addr×Obj)}{Z:St}{Q:Str->Hp->Prop}:∀{es:List Expr} {ts:List TE},pY X es ts->∀{s:Shared} {H:Hp} {acc:Str},Inv X pins Z H s->uG ts Z H acc Q ->
  Joins (model X.prog X.w) X.A X.xe (evalEach es X.env) acc (λout s1=>∃H1,Inv X pins Z H1 s1/\Q out H1) s
 |_,_,.nil,s,H,acc,I,h=>⟨H,I,h⟩
 |_,_,.cons he r,s,H,acc,I,h=>by
  rw[arm_evalEach_cons];refine bS (he pins s Z H _ I h) λv s1 aX=>?_;obtain⟨x,H1,I1,r1,y,ey,hy,q1⟩:=aX;subst ey;obtain⟨t,rfl⟩:=r1;exact⟨y,t,rfl,hy,CQ r I1 q1⟩
theorem DQ{M:Model}{A:Around}{E:Value->Shared->Prop}{Q Q':Str->Shared->Prop}(hq:∀x s,Q x s->Q' x s):∀{l:List (Sem Value)} {acc:Str} {s:Shared},Joins M A E l acc Q s->Joins M A E l acc Q' s
 |[],acc,s,h=>hq _ _ h
 |x::r,acc,s,h=>bS h λv s1 ⟨y,t,e,hz,h1⟩=>⟨y,t,e,hz,DQ hq h1⟩
theorem VC{ki kh:Expr}{rest:List Expr}{ts:List TE}{pos:Pos}(h:pY X (ki::kh::rest) ts):PE X (.JoinedStr (ki::kh::rest) pos) (λZ H Q=>uG ts Z H Str.empty λout H1=>out.length<=sizeLine/\Q (.str out) H1):=by
 intro pins s Z H Q I hw;refine wpAny_JoinedStr (DQ (λx s1 ⟨H1,I1,hl,q⟩=>⟨hl,.str x,H1,I1.tok _,⟨_,rfl⟩,q⟩) (CQ h I hw))
theorem UT{lo:Int}{acc:Array Value}{n:Nat}(h:ItemsOf (λi v=>∃t,v=.int (lo+i*1) t) acc n):Vals ((List.range n).map λ(k:Nat)=>V.int (lo+k)) acc.toList:=by
 have hl:acc.toList.length=n:=by
  have:=h.1;simpa using this
 have go:∀(m:Nat) (l:List Value),l.length<=n->m+l.length=n->(∀i v,l[i]?=some v->∃t,v=Value.int (lo+((m+i:Nat):Int)) t)->Vals ((List.range' m l.length).map λ(k:Nat)=>V.int (lo+k)) l:=by
  intro m l
  induction l generalizing m with
  |nil=>intro _ _ _;exact .nil
  |cons x r ih =>
   intro h1 h2 h3;simp only[List.length_cons,List.range'_succ,List.map_cons];refine .cons ?_ (ih (m+1) (by simp at h1;omega) (by simp at h2;omega) λi v hv=>?_)
   ·obtain⟨t,e⟩:=h3 0 x rfl;exact⟨t,by rw[e];simp⟩
   ·obtain⟨t,e⟩:=h3 (i+1) v (by simpa using hv);exact⟨t,by rw[e,show m+(i+1)=m+1+i by omega]⟩
 have:=go 0 acc.toList (by omega) (by omega) λi v hv=>?_
 ·rw[hl,<- List.range_eq_range'] at this;exact this
 ·have hi:i<n:=by
   have:=(av.mp hv).1;omega
  have:acc[i]?=some v:=by rw[<- gO];exact hv
  obtain⟨t,e⟩:=h.2 i v this;refine⟨t,?_⟩;rw[e];simp
theorem W6(hc:X.calm=true):j9 X (.type "list") (λxs H Q=>∃a lo hi,xs=[.ref a]/\H a=some (.kF lo hi)/\(-(2 ^ 62)<=lo/\lo<2 ^ 62/\-(2 ^ 62)<=hi/\hi<2 ^ 62/\hi-lo<=100000)/\∀p,H p=none->Q (.ref p) (upd H p (.lst ((List.range (hi-lo).toNat).map λ(k:Nat)=>V.int (lo+k))))):=by
 intro pins s Z H xs us Q I r h;obtain⟨a,lo,hi,rfl,ha,⟨h1,h2,h3,h4,h5⟩,q⟩:=h;obtain⟨t,u,v,ho⟩:=I.bx a _ ha;cases r with
 |cons r rr =>
 cases rr;cases r;have hn:Builtin.Range.rangeSize lo hi 1=((hi-lo).toNat:Nat):=by rw[rangeSize_one];split<;>omega
 refine call_list_range (n:=(hi-lo).toNat) (I.ok.hd hc) ho (small_one h1 h2 h3 h4) hn (by omega) λh' kX acc c hk hS ni=>?_;have hp:H s.heap.objs.size=none:=I.bx.fresh (ak _);refine⟨.ref _,_,I.laid (a:=s.heap.objs.size) (o:=.lst ((List.range (hi-lo).toNat).map λ(k:Nat)=>V.int (lo+k))) (t':=kX) hk (ak _) ⟨?_,acc.toList,c,UT ni,by simpa using hS⟩,rfl,q _ hp⟩;rw[aj,WT];have:(hi-lo).toNat<=100000:=by omega
 exact aO this (by decide)
theorem Uk{a:Expr}{ta:TA}{p pos:Pos}(hg:Gl X "range")(hm:X.mg "range"=none)(ha:PA X [a] ta)(hs:starEach [a] X.env=[(false,eval a X.env)]):PE X (.Call (.Name "range" p) [a] [] pos) (λZ H Q=>ta Z H λvs H1=>∃j:Int,vs=[.int j]/\∀q,H1 q=none->Q (.ref q) (upd H1 q (.kF 0 j))):=by
 intro pins s Z H Q I h;refine cc (E8 I hg hm boot_range (bu (bS (ha pos pins s Z H _ I h) λus s1 aX=>?_) hs rfl));obtain⟨vs,H1,I1,r1,q1⟩:=aX;obtain⟨j,e,q⟩:=q1;subst e;cases r1 with
 |cons r rr =>
  cases rr;obtain⟨t,rfl⟩:=r;exact call_range_1 ⟨.ref s1.heap.objs.size,_,I1.laid (a:=s1.heap.objs.size) (o:=.kF 0 j) (λb o e=>ai _ e) (ak _) ⟨_,_,_,ax _ rfl⟩,rfl,q _ (I1.bx.fresh (ak _))⟩
theorem Ul{a b:Expr}{ta:TA}{p pos:Pos}(hg:Gl X "range")(hm:X.mg "range"=none)(ha:PA X [a,b] ta)(hs:starEach [a,b] X.env=[(false,eval a X.env),(false,eval b X.env)])(gA:starEach [b] X.env=[(false,eval b X.env)]):PE X (.Call (.Name "range" p) [a,b] [] pos) (λZ H Q=>ta Z H λvs H1=>∃i j:Int,vs=[.int i,.int j]/\∀q,H1 q=none->Q (.ref q) (upd H1 q (.kF i j))):=by
 intro pins s Z H Q I h;refine cc (E8 I hg hm boot_range (bu (bS (ha pos pins s Z H _ I h) λus s1 aX=>?_) (by rw[hs,gA]) (by rw[gA];rfl)));obtain⟨vs,H1,I1,r1,q1⟩:=aX;obtain⟨i,j,e,q⟩:=q1;subst e;cases r1 with
 |cons r rr =>
  cases rr with
  |cons r' rr =>
   cases rr;obtain⟨t,rfl⟩:=r;obtain⟨t',rfl⟩:=r';exact call_range_2 ⟨.ref s1.heap.objs.size,_,I1.laid (a:=s1.heap.objs.size) (o:=.kF i j) (λb o e=>ai _ e) (ak _) ⟨_,_,_,ax _ rfl⟩,rfl,q _ (I1.bx.fresh (ak _))⟩
def sJ(K:PySem.W.Frag)(P:Params)(a:Addr)(kvs:List (Str×V)):Prop :=
 ∃es n,K.lookup a=some ⟨.type "dict",none,.dict es n,#[]⟩/\PySem.W.KeysLit P es.toList/\(a==sysModules)=false/\∀x,B0 (kvs.lookup x) (findBy Value.isStrOf es x)
theorem EI{kvs:List (Str×V)}(neg:Bool):eI X (compareOp (if neg then .NotIn else .In)) (λx y H Q=>∃a z,y=.ref a/\sJ X.K X.w.params a kvs/\x=.str z/\Q (.bl (xor neg (kvs.lookup z).isSome)) H):=by
 intro pins s Z H x y v u Q I rx ry h;obtain⟨a,z,rfl,⟨es,n,hl,hk,lo,hf⟩,rfl,q⟩:=h;obtain⟨t,rfl⟩:=rx;cases ry;have hm:=PySem.W.mapOf_K (prog:=X.prog) (w:=X.w) I.fu hl hk;have e:=hf z;have ee:(findBy Value.isStrOf es z).isSome=(kvs.lookup z).isSome:=by
  cases h1:kvs.lookup z<;>cases h2:findBy Value.isStrOf es z<;>rw[h1,h2] at e<;>first|rfl|exact e.elim
 cases neg
 ·exact wpAny_in_of (strKind_is X.prog X.w z t) lo hm ⟨.bl _,H,I.tok _,by rw[ee];rfl,by simpa using q⟩
 ·exact wpAny_notIn_of (strKind_is X.prog X.w z t) lo hm ⟨.bl _,H,I.tok _,by rw[ee];rfl,by simpa using q⟩
theorem Kt{kvs:List (Str×V)}:oW X (λx y H Q=>∃a z v,x=.ref a/\sJ X.K X.w.params a kvs/\y=.str z/\kvs.lookup z=some v/\Q v H):=by
 intro value slice pins s Z H x y v u Q I rx ry h hs;obtain⟨a,z,d,rfl,⟨es,n,hl,hk,lo,hf⟩,rfl,hz,q⟩:=h;cases rx;obtain⟨t,rfl⟩:=ry;have hm:=PySem.W.mapOf_K (prog:=X.prog) (w:=X.w) I.fu hl hk;have e:=hf z;rw[hz] at e;cases h2:findBy Value.isStrOf es z with
 |none=>rw[h2] at e;exact e.elim
 |some r =>
  rw[h2] at e;exact tail_any hm.typeIs slot_dict_getitem.lookup (wpAny_getItem_of (strKind_is X.prog X.w z t) hm h2 ⟨d,H,I.tok _,e,q⟩) hs
theorem OL(hu:X.A.units+1<cLine):oW X (λx y H Q=>∃a v,x=.ref a/\K3 H a y (some v)/\Q v H):=by
 intro value slice pins s Z H x y v u Q I rx ry h hs;obtain⟨a,d,rfl,g,q⟩:=h;cases rx;exact tail_any (QG I g) slot_dict_getitem.lookup (Tw hu I g ry λw' s3 I3 eZ=>⟨d,H,I3,eZ,q⟩) hs
end
end L2

namespace ST
open PySem PyProof.Rows
noncomputable abbrev jv(xs:Array Nat):Prop:=xs.toList.Pairwise (· < ·)
theorem jv.lt{xs:Array Nat}(h:jv xs){i k:Nat}(rB:i<k)(hk:k<xs.size):xs.getD i 0<xs.getD k 0:=by
 have:=List.pairwise_iff_getElem.mp h i k (by simpa using cu rB hk) (by simpa using hk) rB;simp only[Array.getElem_toList] at this;rw[<- da (h:=cu rB hk),<- da (h:=hk)];exact this
theorem jv.le{xs:Array Nat}(h:jv xs){i k:Nat}(rB:i<=k)(hk:k<xs.size):xs.getD i 0<=xs.getD k 0:=by
 rcases Nat.eq_or_lt_of_le rB with e|e
 ·rw[e];exact ak _
 ·exact dt (h.lt e hk)
theorem yP{xs:Array Nat}{j:Nat}(h:jv xs):∀(fuel lo hi:Nat),hi-lo<=fuel->lo<=hi->hi<=xs.size->(∀i,i<lo->xs.getD i 0<j)->(∀i,hi<=i->i<xs.size->j<=xs.getD i 0) ->
  SetTable.below.go xs j fuel lo hi<=xs.size/\(∀i,i<SetTable.below.go xs j fuel lo hi->xs.getD i 0<j)/\∀i,SetTable.below.go xs j fuel lo hi<=i->i<xs.size->j<=xs.getD i 0
 |0,lo,hi,h1,h2,h3,h4,h5=>by
  unfold SetTable.below.go;have:lo=hi:=by omega
  subst this;exact⟨h3,h4,h5⟩
 |fuel+1,lo,hi,h1,h2,h3,h4,h5=>by
  unfold SetTable.below.go;split
  ·rename_i hl;have hm:(lo+hi) / 2<xs.size:=by omega
   have em:xs.getD ((lo+hi) / 2) j=xs.getD ((lo+hi) / 2) 0:=by simp[Array.getD,hm]
   dsimp only;rw[em];by_cases hc:xs.getD ((lo+hi) / 2) 0<j
   ·rw[aG hc];exact yP h fuel _ hi (by omega) (by omega) h3 (λi ni=>jb (h.le (by omega) hm) hc) h5
   ·rw[aE hc];exact yP h fuel lo _ (by omega) (by omega) (by omega) h4 λi ni hs=>aO (kd hc) (h.le ni hs)
  ·have:lo=hi:=by omega
   subst this;exact⟨h3,h4,h5⟩
theorem L3{xs:Array Nat}(j:Nat)(h:jv xs):SetTable.below xs j<=xs.size/\(∀i,i<SetTable.below xs j->xs.getD i 0<j)/\∀i,SetTable.below xs j<=i->i<xs.size->j<=xs.getD i 0 :=
 yP h _ 0 _ (by omega) (by omega) (ak _) (λi hi=>absurd hi (Nat.not_lt_zero _)) λi h1 h2=>absurd h2 (by omega)
theorem below_at{xs:Array Nat}(h:jv xs){i:Nat}(hi:i<xs.size):SetTable.below xs (xs.getD i 0)=i:=by
 obtain⟨h1,h2,h3⟩:=L3 (xs.getD i 0) h;rcases jz (SetTable.below xs (xs.getD i 0)) i with z|z|z
 ·exact absurd (h3 _ (ak _) (by omega)) (Nat.not_le_of_lt (h.lt z hi))
 ·exact z
 ·exact absurd (h2 i z) (ba _)
theorem UM{xs:Array Nat}(h:jv xs){i:Nat}(hi:i<xs.size):SetTable.below xs (xs.getD i 0+1)=i+1:=by
 obtain⟨h1,h2,h3⟩:=L3 (xs.getD i 0+1) h;rcases jz (SetTable.below xs (xs.getD i 0+1)) (i+1) with z|z|z
 ·have:=h3 i (by omega) hi;omega
 ·exact z
 ·have:=h2 (i+1) z;have:=h.lt (eB i) (k:=i+1) (by omega);omega
theorem UN{xs:Array Nat}(h:jv xs):SetTable.below xs 0=0:=by
 obtain⟨_,h2,_⟩:=L3 0 h;rcases Nat.eq_zero_or_pos (SetTable.below xs 0) with z|z
 ·exact z
 ·exact absurd (h2 0 z) (Nat.not_lt_zero _)
theorem getD_mem{xs:Array Nat}{i:Nat}(hi:i<xs.size):xs[i]?=some (xs.getD i 0):=by simp[Array.getD,hi]
theorem Vl{t:SetTable}{j:Nat}(h:jv t.place)(hs:t.slot j=.empty):j∉t.place.toList:=by
 intro hm;obtain⟨i,hi,e⟩:=dj.mp hm;have ni:i<t.place.size:=by simpa using hi
 have ej:t.place.getD i 0=j:=by rw[<- da (h:=ni)];simpa using e
 have hb:=below_at h ni;rw[ej] at hb;unfold SetTable.slot at hs;dsimp only at hs;rw[hb,getD_mem ni,ej] at hs;simp at hs
theorem Vh{xs:Array Nat}{j:Nat}(h:jv xs)(hj:j∉xs.toList):jv (SetTable.insertAt xs (SetTable.below xs j) j):=by
 obtain⟨h1,h2,h3⟩:=L3 j h;show(SetTable.insertAt xs (SetTable.below xs j) j).toList.Pairwise (· < ·);rw[SetTable.toList_insertAt,List.pairwise_append];have tk:∀a∈xs.toList.take (SetTable.below xs j),a<j:=λa ha=>by
  obtain⟨i,hi,e⟩:=dj.mp ha;rw[bX] at hi;rw[List.getElem_take] at e;have hs:i<xs.size:=by simp at hi;omega
  have:=h2 i (by omega);rw[<- da (h:=hs)] at this;simp at e;omega
 have dp:∀b∈xs.toList.drop (SetTable.below xs j),j<b:=λb hb=>by
  obtain⟨i,hi,e⟩:=dj.mp hb;rw[fW] at hi;rw[List.getElem_drop] at e;have hs:SetTable.below xs j+i<xs.size:=by simp at hi;omega
  have:=h3 (SetTable.below xs j+i) (by omega) hs;rw[<- da (h:=hs)] at this;have dO:b≠j:=λz=>hj (by rw[<- z];exact hZ hb);simp at e;omega
 refine⟨h.take,cT.mpr ⟨dp,h.drop⟩,λa ha b hb=>?_⟩;have jL:=tk a ha;rcases az.mp hb with z|z
 ·omega
 ·have:=dp b z;omega
theorem Uu(n:Nat):jv (Array.range n):=by
 show(Array.range n).toList.Pairwise (· < ·);rw[Array.toList_range];exact qe
structure Well(L:Bool)(t:SetTable):Prop where
 tQ:jv t.place
 xU:t.dummies=#[]
 led:t.led=L
theorem Se{t:SetTable}(hd:t.dummies=#[])(j:Nat):t.slot j≠.dummy:=by
 unfold SetTable.slot;dsimp only;split
 ·intro z;cases z
 ·rw[hd];split
  ·rename_i z;simp[SetTable.has] at z
  ·intro z;cases z
theorem Es{t:SetTable}(hd:t.dummies=#[]){hashAt:Nat->Int}{h:Int}:∀(fuel:Nat) (p:SetTable.Probe) {j:Nat} {dm:Option Nat},p.dummy=none->SetTable.probe.go t hashAt h fuel p=some (.empty j dm)->t.slot j=.empty/\dm=none
 |0,p,j,dm,_,e=>by simp[SetTable.probe.go] at e
 |fuel+1,p,j,dm,hp,e=>by
  unfold SetTable.probe.go at e;have ad:∀q:SetTable.Probe,q.dummy=none->(t.advance q).dummy=none:=λq hq=>by
   unfold SetTable.advance;split
   ·exact hq
   ·exact hq
  split at e
  ·rename_i hs;cases e;exact⟨hs,hp⟩
  ·rename_i hs;exact absurd hs (Se hd _)
  ·split at e
   ·cases e
   ·exact Es hd fuel _ (ad p hp) e
theorem TC{t:SetTable}(hd:t.dummies=#[]){h:Int}{j:Nat}{wd:Bool}(e:t.freeSlot h=some (j,wd)):t.slot j=.empty/\wd=false:=by
 unfold SetTable.freeSlot at e;split at e
 ·rename_i j' dm hp;obtain⟨h1,h2⟩:=Es hd _ _ rfl hp;subst h2;cases e;exact⟨h1,rfl⟩
 ·cases e
theorem E6{L:Bool}{t:SetTable}(h:Well L t)(n:Nat):Well L (t.standIn n):=⟨Uu n,rfl,h.led⟩
theorem QJ{L:Bool}{t:SetTable}{es:Array (Int×Value)}{h:Int}{x:Value}(hw:Well L t):Well L (layNew t es h x).2.1/\(layNew t es h x).2.2.1=false:=by
 unfold layNew;split
 ·rename_i slot wd e;obtain⟨h1,h2⟩:=TC hw.xU e;refine⟨?_,h2⟩;have hd:SetTable.has t.dummies slot=false:=by rw[hw.xU];simp[SetTable.has]
  have w2:Well L (t.put slot).1:=⟨Vh hw.tQ (Vl hw.tQ h1),by simp only[SetTable.put,hd];exact hw.xU,hw.led⟩
  dsimp only;unfold SetTable.orStandIn;split
  ·exact w2
  ·exact E6 w2 _
 ·exact⟨E6 hw _,rfl⟩
theorem TU{L:Bool}{mask finger moves:Nat}{led plain:Bool}{hashes:Array Int}{t:SetTable}{o:Array Nat}(hl:led=L)(e:SetTable.laid mask finger moves led plain hashes=some (t,o)):Well L t:=by
 unfold SetTable.laid at e;cases ho:SetTable.layClean mask hashes with
 |none=>rw[ho] at e;cases e
 |some owner =>
  rw[ho] at e;simp only[Option.bind_eq_bind,Option.bind_some,Option.pure_def,Option.some.injEq,Prod.mk.injEq] at e;obtain⟨rfl,_⟩:=e;refine⟨?_,rfl,hl⟩;show(List.map _ _).toArray.toList.Pairwise (· < ·);rw[List.toList_toArray];have sub:((List.range (mask+1)).filterMap λj=>(owner.getD j none).map (j,·)).map (·.1) |>.Sublist (List.range (mask+1)):=by
   generalize List.range (mask+1)=l
   induction l with
   |nil=>simp
   |cons a r ih =>
    rw[dy];cases owner.getD a none with
    |none=>exact ih.cons a
    |some k=>exact ih.cons_cons a
  exact List.Pairwise.sublist sub qe
theorem Rz{L:Bool}{t:SetTable}{es:Array (Int×Value)}{n:Nat}(hw:Well L t):Well L (relayAll t es n).2.1:=by
 unfold relayAll;split
 ·rename_i t' order e;dsimp only;split
  ·exact TU hw.led e
  ·exact E6 hw _
 ·exact E6 hw _
end ST

namespace ST
open PySem PyProof.Rows
def toI:Value->Int
 |.int k _=>k
 |_=>0
def Led(w:World):Bool:=!(w.params.followText "set-order")
section
variable{prog:Program}{w:World}
def m8(prog:Program)(w:World)(h:Heap)(a:Addr)(ks:List Int):Prop :=
 ∃o es ep t,h.get? a=some o/\o.ExactSet/\o.data=.set es ep t/\ElemsOf (intKind prog w) es.toList/\(es.toList.map λe=>toI e.2).Perm ks/\ks.Nodup/\es.size<scanBound/\t.fits es.size=true/\Well (Led w) t
theorem m8.at{h h':Heap}{a:Addr}{ks:List Int}(x:m8 prog w h a ks)(k:∀o,h.get? a=some o->h'.get? a=some o):m8 prog w h' a ks:=by
 obtain⟨o,es,ep,t,e,r⟩:=x;exact⟨o,es,ep,t,k o e,r⟩
theorem Fe{e:Int×Value}{es:List (Int×Value)}(h:ElemsOf (intKind prog w) es)(he:e∈es):∃tk,e.2=.int (toI e.2) tk/\e.1=(intKind prog w).hash (toI e.2):=by
 obtain⟨⟨k,h1,h2⟩,_⟩:=h e he;obtain⟨t,ht⟩:=mh (k:=k) (v:=e.2) h1;refine⟨t,by rw[ht];rfl,?_⟩;rw[h2,ht]
 rfl
theorem ED{e:Int×Value}{es:List (Int×Value)}(h:ElemsOf (intKind prog w) es)(he:e∈es)(k:Int):(intKind prog w).is k e.2=decide (toI e.2=k):=by
 obtain⟨t,ht,_⟩:=Fe h he;show Value.isInt k e.2=_;rw[ht];generalize toI e.2=m;show Value.isInt k (.int m t)=decide (m=k);by_cases z:m=k
 ·subst z;simp[Value.isInt]
 ·rw[aC z];cases hv:Value.isInt k (.int m t) with
  |false=>rfl
  |true =>
   obtain⟨t',e'⟩:=mh hv;cases e';exact absurd rfl z
theorem m8.mem{a:Addr}{es:List (Int×Value)}{ks:List Int}(h:ElemsOf (intKind prog w) es)(hp:(es.map λe=>toI e.2).Perm ks)(k:Int):(es.findIdx? λe=>(intKind prog w).is k e.2).isSome=decide (k∈ks):=by
 rw[bp,bP,<- hp.mem_iff,aT,dC];constructor
 ·rintro⟨i,hi⟩;obtain⟨h1,h2,_⟩:=jt.mp hi;have hm:=cL h1;rw[ED h hm] at h2;exact⟨_,hm,aY h2⟩
 ·rintro⟨e,he,rfl⟩;cases hf:es.findIdx? λe'=>(intKind prog w).is (toI e.2) e'.2 with
  |some i=>exact⟨i,rfl⟩
  |none =>
   have:=List.findIdx?_eq_none_iff.mp hf e he;rw[ED h he] at this;simp at this
variable{A:Around}{E:Value->Shared->Prop}{s:Shared}
def x8(ks:List Int)(k:Int):List Int:=if k∈ks then ks else ks++[k]
theorem Ww(ks:List Int)(k:Int):(x8 ks k).length<=ks.length+1:=by unfold x8;split<;>simp
theorem FI{a:Addr}{ks:List Int}{k:Int}{tk:Tok}{Q:Bool->Shared->Prop}(hS:m8 prog w s.heap a ks)(hr:ks.length+1<scanBound)(h:∀h' b,Heap.SameBut a s.heap h'->m8 prog w h' a (x8 ks k)->Q b { s with heap:=h' }):wpAny (model prog w) A (setAddHashed a (.int k tk) ((intKind prog w).hash k)) Q E s:=by
 obtain⟨o,es,ep,t,ho,hx,hd,nk,hp,hn,hb,hf,hw⟩:=hS;have hlen:es.size=ks.length:=by rw[<- hp.length_eq];simp
 have jn:(intKind prog w).is k (.int k tk)=true:=fc _ _ _ _;have gv:∀(b:Bool) (s1:Shared) (Q':Unit->Shared->Prop),Q' () s1->wpAny (model prog w) A (match b with|true=>rule "set.scan.the-table-gave-way"|false=>pure ()) Q' E s1:=λb s1 Q' q=>by
  cases b
  ·exact ah q
  ·exact fb q
 unfold setAddHashed setAddHashedIn;refine bT (aa (bV ho hd hf ?_));dsimp only;rw[byScan_of rfl hb nk,aG rfl];unfold setAddByScan;refine aa (aa (fb (aa (wpAny_setScan_of jn ho hd hf nk ?_))));have hm:=m8.mem (a:=a) nk hp k;cases jm:es.toList.findIdx? (λe=>(intKind prog w).is k e.2) with
 |some j =>
  rw[jm] at hm;have hk:k∈ks:=by simpa using hm.symm
  refine ah (ah ?_);have e0:s={ s with heap:=s.heap }:=rfl;rw[e0];refine h s.heap _ (Heap.SameBut.refl a s.heap) ?_;unfold x8;rw[aG hk];exact⟨o,es,ep,t,ho,hx,hd,nk,hp,hn,hb,hf,hw⟩
 |none =>
  rw[jm] at hm;have hk:k∉ks:=by simpa using hm.symm
  dsimp only;have p1:=layNew_perm t es ((intKind prog w).hash k) (.int k tk);have f1:=layNew_fits t es ((intKind prog w).hash k) (.int k tk);obtain⟨w1,vB⟩:=QJ (es:=es) (h:=(intKind prog w).hash k) (x:=.int k tk) hw;generalize layNew t es ((intKind prog w).hash k) (.int k tk)=R1 at p1 f1 w1 vB ⊢;obtain⟨fA,t1,wd,Jd⟩:=R1;dsimp only at p1 f1 w1 vB ⊢;subst vB;rw[WX] at p1;have BL:ElemsOf (intKind prog w) fA.toList:=(nk.push jn rfl).perm p1;have Xc:fA.size=es.size+1:=by rw[<- bj,p1.length_eq];simp
  have k1:(fA.toList.map λe=>toI e.2).Perm (x8 ks k):=by
   unfold x8;rw[aE hk];refine(p1.map _).trans ?_;rw[cx];exact hp.append_right _
  have n1:(x8 ks k).Nodup:=by
   unfold x8;rw[aE hk,dc];exact⟨hn,by simp,λx hx y hy=>by simp at hy;subst hy;exact λz=>hk (z▸hx)⟩
  refine aa (gv _ _ _ ?_);have fin:∀ (t2:SetTable),t2.fits fA.size=true->Well (Led w) t2->wpAny (model prog w) A (do
    storeSet a fA t2
    if(!false&&t2.tooFull)=true then do
      (match(relayAll t2 fA (SetTable.grown fA.size)).2.2 with|true=>rule "set.scan.the-table-gave-way"|false=>pure ())
      storeSet a (relayAll t2 fA (SetTable.grown fA.size)).1 (relayAll t2 fA (SetTable.grown fA.size)).2.1
      pure (some true)
     else pure (some true)) (λr s'=>wpAny (model prog w) A (match r with | some added=>pure added | none=>setAddHashedIn a (.int k tk) ((intKind prog w).hash k) 99999) Q E s') E s:=λt2 f2 w2=>by
   have g1:(s.heap.update a (Obj.putSet fA t2)).get? a=some { o with data:=.set fA (ep+1) t2 }:=by
    have:=aS (Obj.putSet fA t2) ho (by rw[WO fA t2 hd];rfl);rw[WO fA t2 hd] at this;exact this
   refine aa (wpAny_storeSet_of ho hd ?_ (fits_of_scanBound (by omega)));have AG:=bN s.heap a (Obj.putSet fA t2);split
   ·have p2:=relayAll_perm t2 fA (SetTable.grown fA.size);have f3:=relayAll_fits t2 fA (SetTable.grown fA.size);have w3:=Rz (es:=fA) (n:=SetTable.grown fA.size) w2;generalize relayAll t2 fA (SetTable.grown fA.size)=R2 at p2 f3 w3 ⊢;obtain⟨lO,t3,XH⟩:=R2;dsimp only at p2 f3 w3 ⊢;have Xb:lO.size=fA.size:=by rw[<- bj,p2.length_eq,bj]
    refine aa (gv _ _ _ ?_);refine aa (wpAny_storeSet_of g1 rfl ?_ (fits_of_scanBound (by omega)));refine ah (ah (h _ _ (AG.trans (bN _ a _)) ?_));have g2:((s.heap.update a (Obj.putSet fA t2)).update a (Obj.putSet lO t3)).get? a=some { o with data:=.set lO (ep+1+1) t3 }:=by
     have:=aS (Obj.putSet lO t3) g1 (by rw[WO lO t3 rfl];rfl);rw[WO lO t3 rfl] at this;exact this
    exact⟨_,lO,_,t3,g2,hx,rfl,BL.perm p2,(p2.map _).trans k1,n1,by omega,f3,w3⟩
   ·exact ah (ah (h _ _ AG ⟨_,fA,_,t2,g1,hx,rfl,BL,k1,n1,by omega,f1 |> λ_=>f2,w2⟩))
  split
  ·refine aa (dB (hashByValue_scannable 8 rfl) ?_);exact fin _ f1 w1
  ·refine aa (ah ?_);exact fin _ f1 w1
end
end ST

namespace ST
open PySem PyProof.Rows
theorem Rc:entryFor table "set.__iter__"=some Builtin.«frozenset.__iter__» :=
 entryFor_alias (id':="frozenset.__iter__") (by kernel_rfl) rfl (by decide +kernel) (by kernel_rfl)
theorem v5:Slot "set_iterator" "__next__" "set_iterator.__next__" :=
 .of (owner:="set_iterator") (n:="__next__") (by rw[iS,eX];kernel_rfl) (by decide +kernel) (by decide +kernel) (by decide +kernel)
  (by first|exact .inl (by decide +kernel)|exact .inr (by decide +kernel)) (by rw[fS];kernel_rfl)
theorem Ej:entryFor table "set_iterator.__next__"=some Builtin.«set_iterator.__next__»:=entryFor_of_tree (by kernel_rfl)
theorem Z2(a:Value):argsOk "set_iterator.__next__" ⟨[a],[]⟩:=by
 unfold argsOk
 kernel_rfl
theorem X3:Slot "set_iterator" "__iter__" "set_iterator.__iter__" :=
 .of (owner:="set_iterator") (n:="__iter__") (by rw[iS,eX];kernel_rfl) (by decide +kernel) (by decide +kernel) (by decide +kernel)
  (by first|exact .inl (by decide +kernel)|exact .inr (by decide +kernel)) (by rw[fS];kernel_rfl)
theorem QH:entryFor table "set_iterator.__iter__"=some Builtin.«dict_keyiterator.__iter__» :=
 entryFor_alias (id':="dict_keyiterator.__iter__") (by kernel_rfl) rfl (by decide +kernel) (by kernel_rfl)
theorem QW(a:Value):argsOk "set_iterator.__iter__" ⟨[a],[]⟩:=by
 unfold argsOk
 kernel_rfl
end ST

namespace ST
open PySem PyProof.Rows
inductive Rd|text|plain|drawn
structure Lies(h:Heap)(a:Addr)(es:Array (Int×Value))(ep:Nat)(t:SetTable):Prop where
 at_:∃o,h.get? a=some o/\o.cls=.type "set"/\o.data=.set es ep t
 fit:t.fits es.size=true
theorem Lies.at{h h':Heap}{a:Addr}{es:Array (Int×Value)}{ep:Nat}{t:SetTable}(x:Lies h a es ep t)(k:∀o,h.get? a=some o->h'.get? a=some o):Lies h' a es ep t :=
 ⟨let ⟨o,e,r⟩:=x.at_;⟨o,k o e,r⟩,x.fit⟩
def y9(h:Heap)(I a:Addr)(f:Value)(i n ep:Nat):Prop:=∃o,h.get? I=some o/\o.cls=.type "set_iterator"/\o.data=.fields #[f,rawInt i,.ref a,rawInt n,rawInt ep]
theorem y9.at{h h':Heap}{I a:Addr}{f:Value}{i n ep:Nat}(x:y9 h I a f i n ep)(k:∀o,h.get? I=some o->h'.get? I=some o):y9 h' I a f i n ep:=let ⟨o,e,r⟩:=x;⟨o,k o e,r⟩
theorem y9.ty{s:Shared}{I a:Addr}{f:Value}{i n ep:Nat}(x:y9 s.heap I a f i n ep):s.TypeIs (.ref I) "set_iterator":=let ⟨o,e,c,_⟩:=x;⟨o,e,c⟩
def sS(w:World)(a:Addr)(es:Array (Int×Value))(ep:Nat)(pl:List Nat):Rd->List Value
 |.text=>(pickOrder (w.params.setOrder a ep) es).toList.map (·.2)
 |.plain=>es.toList.map (·.2)
 |.drawn=>pl.map λj=>(es.getD j (0,.none)).2
def slotAt(t:SetTable):Nat->Nat
 |0=>0
 |i+1=>t.place.getD i 0+1
def J5(h:Heap)(t:SetTable)(b:Addr)(pl:List Nat)(i:Nat)(f:Value):Rd->Prop
 |.text=>∃k:Nat,f=rawInt k
 |.plain=>f=rawInt (slotAt t i)
 |.drawn=>f=.ref b/\∃o e,h.get? b=some o/\o.cls=.type "tuple"/\o.data=.seq (pl.map λj=>rawInt (j:Nat)).toArray e
def pM(w:World)(es:Array (Int×Value))(t:SetTable)(pl:List Nat):Rd->Prop
 |.text=>w.params.followText "set-order"=true
 |.plain=>w.params.followText "set-order"=false/\(t.plain=true\/es.size<=1)/\Well true t
 |.drawn=>w.params.followText "set-order"=false/\pl.Perm (List.range es.size)
section
variable{prog:Program}{w:World}{A:Around}{E:Value->Shared->Prop}{s:Shared}{a:Addr}{es:Array (Int×Value)}{ep:Nat}{t:SetTable}
theorem Z1{Q:Bool->Shared->Prop}(h:Q (w.params.followText "set-order") s):wpAny (model prog w) A setsByText Q E s:=by
 unfold setsByText;exact aa (nK (ah h))
theorem DI(hL:Lies s.heap a es ep t)(ht:w.params.followText "set-order"=true){sl g:Nat}{Q:Option (Value×Nat)->Shared->Prop}(h:Q (((pickOrder (w.params.setOrder a ep) es)[g]?).map λe=>(e.2,sl)) s) :
  wpAny (model prog w) A (setNext a sl g ep) Q E s:=by
 obtain⟨o,ho,_,hd⟩:=hL.at_;unfold setNext;refine aa (bV ho hd hL.fit ?_);refine aa (Z1 ?_);rw[ht,aG rfl,aE (by simp)];unfold setWalk;refine aa (aa (bV ho hd hL.fit ?_));refine aa (Z1 ?_);rw[ht,aG rfl];exact aa (nK (ah (ah h)))
theorem Ed(hL:Lies s.heap a es ep t)(ht:w.params.followText "set-order"=false)(hp:t.plain=true\/es.size<=1)(hl:t.led=true){sl g:Nat}{Q:Option (Value×Nat)->Shared->Prop}(h:Q (match es[SetTable.below t.place sl]?,t.place[SetTable.below t.place sl]? with|some (_,x),some j=>some (x,j+1)|_,_=>none) s):wpAny (model prog w) A (setNext a sl g ep) Q E s:=by
 obtain⟨o,ho,_,hd⟩:=hL.at_;unfold setNext;refine aa (bV ho hd hL.fit ?_);refine aa (Z1 ?_);rw[ht,aE (by decide)];show wpAny _ _ (if(!t.plain&&decide (es.size>1))=true then _ else _) _ _ _;rw[aE (by rcases hp with e|e<;>simp[e])];refine aa (dB (a:=()) ?_ (ah h));show((if(!t.led&&!es.isEmpty)=true then unsupported "set:maker-not-led" else pure ()):Sem Unit)=pure ();rw[hl]
 rfl
theorem Vd(hL:Lies s.heap a es ep t){j:Nat}(hj:j<es.size){Q:Value->Shared->Prop}(h:Q (es.getD j (0,.none)).2 s):wpAny (model prog w) A (setNextDrawn a j ep) Q E s:=by
 obtain⟨o,ho,_,hd⟩:=hL.at_;unfold setNextDrawn;refine aa (bV ho hd hL.fit ?_);dsimp only;rw[aE (by simp)];have e:es[j]?=some (es.getD j (0,.none)):=by simp[Array.getD,hj]
 rw[e];exact ah h
end
end ST

namespace ST
open PySem PyProof.Rows
section
variable{prog:Program}{w:World}{A:Around}{E:Value->Shared->Prop}{s:Shared}{a I b:Addr}{es:Array (Int×Value)}{ep:Nat}{t:SetTable}{pl:List Nat}
theorem De(hL:Lies s.heap a es ep t):t.place.size=es.size:=by
 have:=hL.fit;unfold SetTable.fits at this;simp at this;exact this.1
theorem DS(hw:jv t.place){i:Nat}(hi:i<=t.place.size):SetTable.below t.place (slotAt t i)=i:=by
 cases i with
 |zero=>exact UN hw
 |succ i=>exact UM hw (by omega)
theorem entries{Q:Array (Int×Value)->Shared->Prop}(hL:Lies s.heap a es ep t)(h:Q es s):wpAny (model prog w) A (setEntries a) Q E s:=by
 obtain⟨o,ho,_,hd⟩:=hL.at_;unfold setEntries;exact aa (bV ho hd hL.fit (ah h))
theorem Pt{f f':Value}{i n:Nat}{h:Heap}(hi:y9 h I a f i n ep){x:Value}(hx:x=rawInt ((i:Int)+1)):y9 ((h.update I (Obj.mapFields (·.setIfInBounds 0 f'))).update I (Obj.mapFields (·.setIfInBounds 1 x))) I a f' (i+1) n ep:=by
 obtain⟨o,ho,hc,hd⟩:=hi;have h1:=aS (Obj.mapFields (·.setIfInBounds 0 f')) ho (cC (bh hd _));have d1:(Obj.mapFields (·.setIfInBounds 0 f') o).data=.fields #[f',rawInt i,.ref a,rawInt n,rawInt ep]:=by rw[bh hd];simp
 have h2:=aS (Obj.mapFields (·.setIfInBounds 1 x)) h1 (cC (bh d1 _));refine⟨_,h2,(ml ..).trans ((ml ..).trans hc),?_⟩;rw[bh d1];subst hx;simp[rawInt]
theorem Pq{f:Value}{i n:Nat}{h:Heap}(hi:y9 h I a f i n ep){x:Value}(hx:x=rawInt ((i:Int)+1)):y9 (h.update I (Obj.mapFields (·.setIfInBounds 1 x))) I a f (i+1) n ep:=by
 obtain⟨o,ho,hc,hd⟩:=hi;have h2:=aS (Obj.mapFields (·.setIfInBounds 1 x)) ho (cC (bh hd _));refine⟨_,h2,(ml ..).trans hc,?_⟩;rw[bh hd];subst hx;simp[rawInt]
theorem Cz{α:Type}{f f' x:Value}{i n:Nat}{m:Sem α}{Q':α->Shared->Prop}(hi:y9 s.heap I a f i n ep)(hx:x=rawInt ((i:Int)+1))(h:∀h',y9 h' I a f' (i+1) n ep->Heap.SameBut I s.heap h'->wpAny (model prog w) A m Q' E { s with heap:=h' }) :
  wpAny (model prog w) A (do setField (.ref I) 0 f';setField (.ref I) 1 x;m) Q' E s:=by
 obtain⟨o,ho,hc,hd⟩:=id hi;refine aa (cY ho hd (by simp) ?_);have h1:=aS (Obj.mapFields (·.setIfInBounds 0 f')) ho (cC (bh hd _));have d1:(Obj.mapFields (·.setIfInBounds 0 f') o).data=.fields #[f',rawInt i,.ref a,rawInt n,rawInt ep]:=by rw[bh hd];simp
 refine aa (cY (s:={ s with heap:=_ }) h1 d1 (by simp) ?_);exact h _ (Pt hi hx) ((bN ..).trans (bN ..))
theorem Qs{α:Type}{f x:Value}{i n:Nat}{m:Sem α}{Q':α->Shared->Prop}(hi:y9 s.heap I a f i n ep)(hx:x=rawInt ((i:Int)+1))(h:∀h',y9 h' I a f (i+1) n ep->Heap.SameBut I s.heap h'->wpAny (model prog w) A m Q' E { s with heap:=h' }) :
  wpAny (model prog w) A (do setField (.ref I) 1 x;m) Q' E s:=by
 obtain⟨o,ho,hc,hd⟩:=id hi;refine aa (cY ho hd (by simp) ?_);exact h _ (Pq hi hx) (bN ..)
theorem ze{α:Type}(next:Nat->Nat)(xs:Array α):(pickOrder next xs).toList.Perm xs.toList:=by
 have go:∀(fuel k:Nat) (left:List α) (out:Array α),fuel=left.length->(pickOrder.go next fuel k left out).toList.Perm (out.toList++left):=by
  intro fuel
  induction fuel with
  |zero =>
   intro k left out e;have:left=[]:=eJ e.symm;subst this;simp[pickOrder.go]
  |succ n ih =>
   intro k left out e;have dR:next k % left.length<left.length:=GC _ (by omega)
   unfold pickOrder.go;rw[aq dR];refine(ih _ _ _ (by rw[fj dR];omega)).trans ?_;rw[WX,fF];refine List.Perm.append_left _ ?_;have:left.Perm (left[next k % left.length]::left.eraseIdx (next k % left.length)):=by
    rw[jN]
    conv=>lhs;rw[<- tF (next k % left.length) left,fo dR]
    exact Ya
   exact this.symm
 have:=go xs.size 0 xs.toList #[] (by simp);simpa[pickOrder] using this
theorem next_item{r:Rd}{i:Nat}{f:Value}{Q:Option Value->Shared->Prop}(hL:Lies s.heap a es ep t)(hr:pM w es t pl r)(hi:y9 s.heap I a f i es.size ep)(hf:J5 s.heap t b pl i f r)(dO:b≠I)(dR:i<es.size)(h:∀v h' f',(sS w a es ep pl r)[i]?=some v->y9 h' I a f' (i+1) es.size ep->J5 h' t b pl (i+1) f' r->Heap.SameBut I s.heap h'->Q (some v) { s with heap:=h' }):wpAny (model prog w) A (pyNext (.ref I)) Q E s:=by
 obtain⟨o,ho,hc,hd⟩:=id hi;unfold pyNext;refine aa (wpAny_attempt (et (name:=Str.ofString "__next__") hi.ty v5 (cb v5 hi.ty Ej ?_ (Z2 _))));unfold Builtin.«set_iterator.__next__»;refine aa (ah ?_);refine aa (wpAny_fieldsOf ho hd ?_);dsimp only[rawInt];refine aa (entries hL ?_);rw[aE (by simp)];rw[cz,cz];cases r with
 |text =>
  obtain⟨k,rfl⟩:=hf;dsimp only[rawInt];refine aa (DI hL hr ?_);have hl:i<(pickOrder (w.params.setOrder a ep) es).size:=by
   have:=(ze (w.params.setOrder a ep) es).length_eq;simp at this;omega
  rw[du hl];refine Cz hi rfl λh' h1 h2=>ah ⟨_,rfl,ah (h _ _ _ ?_ h1 ⟨_,rfl⟩ h2)⟩;show((pickOrder (w.params.setOrder a ep) es).toList.map (·.2))[i]?=_;simp[hl]
 |plain =>
  obtain⟨r1,r2,r3⟩:=hr;have hs:=De hL;obtain rfl:=hf;dsimp only[rawInt];rw[cz];refine aa (Ed hL r1 r2 r3.led ?_);rw[DS r3.tQ (by omega),du dR,getD_mem (by omega)];refine Cz hi rfl λh' h1 h2=>ah ⟨_,rfl,ah (h _ _ _ ?_ h1 rfl h2)⟩;show(es.toList.map (·.2))[i]?=_;simp[dR]
 |drawn =>
  obtain⟨r1,r2⟩:=hr;obtain⟨rfl,ob,e,hb,Bw,tZ⟩:=hf;have fm:i<pl.length:=by rw[r2.length_eq];simpa using dR
  dsimp only;refine aa (wpAny_seqItems hb tZ ?_);have hj:pl[i]<es.size:=by
   have:=r2.mem_iff.mp (cL fm);simpa using this
  have e1:(pl.map λj=>rawInt (j:Nat)).toArray[i]?=some (rawInt (pl[i]:Nat)):=by simp[fm]
  dsimp only;rw[e1];dsimp only[rawInt];rw[cz];refine aa (Vd hL hj ?_);refine Qs hi rfl λh' h1 h2=>ah ⟨_,rfl,ah (h _ _ _ ?_ h1 ⟨rfl,ob,e,by rw[h2.2 b dO];exact hb,Bw,tZ⟩ h2)⟩;show(pl.map λj=>(es.getD j (0,.none)).2)[i]?=_;simp[fm]
theorem zf{Q:Option Value->Shared->Prop}{I:Addr}{h0:Heap}(hh:A.handled=none)(IW:Heap.ExtBut I h0 s.heap)(h:∀h',Heap.ExtBut I h0 h'->Q none { s with heap:=h' }) :
  wpAny (model prog w) A.in1 (newExc (.type "StopIteration") [] >>= λe=>(raiseNew e:Sem Fin)) (λfin s'=>∃v,fin=Fin.done (Flow.ret v)/\wpAny (model prog w) A (pure (some v)) Q E s')
   (λe s'=>wpAny (model prog w) A (do
     let x <- isInstance e (Value.type "StopIteration")
     if x=true then pure none else throw e) Q E s') s:=by
 refine aa ?_;simp only[newExc,newTuple];refine aa (bO ?_ (by size_fits));refine aa (m:=firstArgMember _ _) (dB (a:=Value.none) (by first|rfl|(simp only[firstArgMember];rfl)) ?_);refine bO ?_ (by size_fits);simp only[raiseNew];refine aa (wpAny_handled ?_);rw[show A.in1.handled=none from hh];refine aa (ah (wpAny_throw ?_));refine aa (hU (T:="StopIteration") (b:=true) ⟨_,ax _ rfl,rfl⟩ isSubtype_stop ?_);exact ah (h _ ((IW.push _).push _))
theorem next_end{r:Rd}{f:Value}{Q:Option Value->Shared->Prop}(hh:A.handled=none)(hL:Lies s.heap a es ep t)(hr:pM w es t pl r)(hi:y9 s.heap I a f es.size es.size ep)(hf:J5 s.heap t b pl es.size f r)(dO:b≠I)(h:∀h',Heap.ExtBut I s.heap h'->Q none { s with heap:=h' }):wpAny (model prog w) A (pyNext (.ref I)) Q E s:=by
 obtain⟨o,ho,hc,hd⟩:=id hi;unfold pyNext;refine aa (wpAny_attempt (et (name:=Str.ofString "__next__") hi.ty v5 (cb v5 hi.ty Ej ?_ (Z2 _))));unfold Builtin.«set_iterator.__next__»;refine aa (ah ?_);refine aa (wpAny_fieldsOf ho hd ?_);dsimp only[rawInt];refine aa (entries hL ?_);rw[aE (by simp)];rw[cz,cz];cases r with
 |text =>
  obtain⟨k,rfl⟩:=hf;dsimp only[rawInt];refine aa (DI hL hr ?_);have hl:(pickOrder (w.params.setOrder a ep) es).size<=es.size:=by
   have:=(ze (w.params.setOrder a ep) es).length_eq;simp at this;omega
  rw[qi hl];refine aa (cY ho hd (by simp) ?_);exact zf (s:={ s with heap:=_ }) hh (bN ..).extBut h
 |plain =>
  obtain⟨r1,r2,r3⟩:=hr;have hs:=De hL;obtain rfl:=hf;dsimp only[rawInt];rw[cz];refine aa (Ed hL r1 r2 r3.led ?_);rw[DS r3.tQ (by omega),qi (ak _)];refine aa (cY ho hd (by simp) ?_);exact zf (s:={ s with heap:=_ }) hh (bN ..).extBut h
 |drawn =>
  obtain⟨r1,r2⟩:=hr;obtain⟨rfl,ob,e,hb,Bw,tZ⟩:=hf;have fm:pl.length=es.size:=by rw[r2.length_eq];simp
  dsimp only;refine aa (wpAny_seqItems hb tZ ?_);have e1:(pl.map λj=>rawInt (j:Nat)).toArray[es.size]?=none:=by simp[fm]
  dsimp only;rw[e1];dsimp only[rawInt];refine aa (cY ho hd (by simp) ?_);have h1:=aS (Obj.mapFields (·.setIfInBounds 0 (Value.int 0 0))) ho (cC (bh hd _));refine aa (cY (s:={ s with heap:=_ }) h1 (bh hd _) (by simp) ?_);exact zf (s:={ s with heap:=_ }) hh ((bN ..).trans (bN ..)).extBut h
end
end ST

namespace ST
open PySem PyProof.Rows
section
variable{prog:Program}{w:World}{A:Around}{E:Value->Shared->Prop}{s:Shared}{a I b:Addr}{es:Array (Int×Value)}{ep:Nat}{t:SetTable}{pl:List Nat}
theorem Um{α:Type}{l:List α}{k:Nat}(dR:k<l.length):(l[k]::l.eraseIdx k).Perm l:=by
 rw[jN]
 conv=>rhs;rw[<- tF k l,fo dR]
 exact Ya.symm
theorem DW{α:Type}:∀(n:Nat) (xs:List α) (s:Shared) (Q:List α->Shared->Prop),n=xs.length->(∀ys d,ys.Perm xs->Q ys { s with drawn:=d })->wpAny (model prog w) A (drawOrder n xs) Q E s
 |0,xs,s,Q,e,h=>by
  have:xs=[]:=eJ e.symm;subst this;exact ah (h [] s.drawn (List.Perm.refl _))
 |n+1,[],s,Q,e,h=>by simp at e
 |n+1,x::xs,s,Q,e,h=>by
  unfold drawOrder;refine aa ?_;intro Γ p Xh;refine⟨by simp,?_⟩;generalize (model prog w).w.draws .order (s.drawn.get .order)=k;have dR:k % (x::xs).length<(x::xs).length:=GC _ (by simp);have go:wpAny (model prog w) A (match (x :: xs)[k % (x :: xs).length]? with
   |some y=>do
    let ys <- drawOrder n ((x::xs).eraseIdx (k % (x::xs).length))
    pure (y::ys)
   | none=>unsupported "internal:drawOrder") Q E { s with drawn:=s.drawn.bump .order }:=by
   rw[aq dR];refine aa (DW n _ _ _ (by rw[fj dR];simp at e ⊢;omega) λys d hp=>ah ?_);exact h _ d ((List.Perm.cons _ hp).trans (Um dR))
  exact go
theorem CV{r:Rd}(hr:pM w es t pl r):(sS w a es ep pl r).Perm (es.toList.map (·.2)):=by
 cases r with
 |text=>exact(ze _ es).map _
 |plain=>exact List.Perm.refl _
 |drawn =>
  refine(hr.2.map _).trans ?_;have:(List.range es.size).map (λj=>(es.getD j (0,.none)).2)=es.toList.map (·.2):=by
   apply Yc
   ·simp
   ·intro i h1 h2;simp at h1;simp[Array.getD,h1]
  rw[this]
theorem Lies.ty(hL:Lies s.heap a es ep t):s.TypeIs (.ref a) "set":=let ⟨o,e,c,_⟩:=hL.at_;⟨o,e,c⟩
theorem SS(hL:Lies s.heap a es ep t)(hw:Well (Led w) t)(hz:es.size<=10000){Q:Value->Shared->Prop}(h:∀r pl b f I h' d',pM w es t pl r->y9 h' I a f 0 es.size ep->J5 h' t b pl 0 f r->b≠I->(b=a\/s.heap.objs.size<=b)->(∀c o,s.heap.get? c=some o->h'.get? c=some o)->s.heap.objs.size<=I->s.heap.objs.size<=h'.objs.size->Q (.ref I) { s with heap:=h',drawn:=d' }) :
  wpAny (model prog w) A (pyIter (.ref a)) Q E s:=by
 obtain⟨o,ho,wx,hd⟩:=hL.at_;refine wpAny_pyIter_slot hL.ty F.slot_set_iter (cb F.slot_set_iter hL.ty Rc ?_ (F.args_set_iter_1 _));unfold Builtin.«frozenset.__iter__»;refine aa (ah ?_);unfold Builtin.Frozenset.sizeOf;refine aa (aa (entries hL (ah ?_)));unfold setDrawn;refine aa (aa (bV ho hd hL.fit ?_));refine aa (Z1 (ah ?_));have dR:=au ho;have fin:∀(r:Rd) (f:Value) (b:Addr) (pl:List Nat) (h1:Heap) (d1:Drawn),pM w es t pl r->(∀h',(∀c o,h1.get? c=some o->h'.get? c=some o)->J5 h' t b pl 0 f r)->b<h1.objs.size->(b=a\/s.heap.objs.size<=b)->(∀c o,s.heap.get? c=some o->h1.get? c=some o)->s.heap.objs.size<=h1.objs.size ->
   wpAny (model prog w) A.in1 (do
    let e <- setEpoch a
    ret (<- newFields "set_iterator" [f,rawInt 0,.ref a,rawInt es.size,rawInt e])) (λfin s'=>∃ v,fin=Fin.done (Flow.ret v)/\∃ T' r,s'.TypeIs v T'/\typeLookup (.type T') "__next__"=pure (some r)/\Q v s') E { s with heap:=h1,drawn:=d1 }:=λr f b pl h1 d1 hr hf hb Ir he hsz=>by
  have pG:Lies h1 a es ep t:=hL.at λo e=>he a o e;obtain⟨o1,HL,_,Il⟩:=pG.at_;unfold setEpoch;refine aa (aa (bV (s:={ s with heap:=h1,drawn:=d1 }) HL Il pG.fit (ah ?_)));refine aa (bO (ah ⟨_,rfl,"set_iterator",_,⟨_,ax _ rfl,rfl⟩,v5.lookup,?_⟩));refine h r pl b f h1.objs.size _ d1 hr ⟨_,ax _ rfl,rfl,rfl⟩ (hf _ λc o e=>ai _ e) (aK hb) Ir (λc o e=>ai _ (he c o e)) hsz (by rw[tw];exact Nat.le_succ_of_le hsz)
 have e0:s={ s with heap:=s.heap,drawn:=s.drawn }:=rfl;cases hT:w.params.followText "set-order" with
 |true =>
  dsimp only[Bool.not_true,Bool.false_and];rw[aE (by simp)];refine aa (ah ?_);rw[e0];exact fin .text (rawInt 0) a [] s.heap s.drawn hT (λh' _=>⟨0,rfl⟩) dR (.inl rfl) (λc o e=>e) (ak _)
 |false =>
  show wpAny _ _ (if(!false&&(!t.plain&&decide (es.size>1)))=true then _ else _ ) _ _ _;by_cases hp:t.plain=true\/es.size<=1
  ·rw[aE (by rcases hp with e|e<;>simp[e])];refine aa (ah ?_);rw[e0];refine fin .plain (rawInt 0) a [] s.heap s.drawn ⟨hT,hp,?_⟩ (λh' _=>rfl) dR (.inl rfl) (λc o e=>e) (ak _);have:Led w=true:=by unfold Led;rw[hT];rfl
   rw[<- this];exact hw
  ·have h1:t.plain=false:=by cases hq:t.plain with|true=>exact absurd (.inl hq) hp|false=>rfl
   have h2:¬es.size<=1:=λz=>hp (.inr z);rw[aG (by simp[h1];omega)];refine aa (DW _ _ _ _ (WT).symm λys d hy=>?_);have hl:ys.length=es.size:=by rw[hy.length_eq];simp
   refine aa (bO ?_ (by show(List.map _ ys).toArray.size<=sizeLine;rw[ay,aj,hl];exact aO hz (by decide)));refine fin .drawn (.ref s.heap.objs.size) s.heap.objs.size ys _ d ⟨hT,hy⟩ (λh' hk=>⟨rfl,_,_,hk _ _ (ax _ rfl),rfl,rfl⟩) (by rw[tw];exact eB _) (.inr (ak _)) (λc o e=>ai _ e) (by rw[tw];exact fC _)
theorem Ux(hh:A.handled=none){r:Rd}(hr:pM w es t pl r)(dO:b≠I)(HM:a≠I) :
  Walks prog w A I [I,a,b] [I] es.size (λi v=>(sS w a es ep pl r)[i]?=some v) (λi h=>Lies h a es ep t/\∃f,y9 h I a f i es.size ep/\J5 h t b pl i f r) where
 sub:=λc hc=>by simp at hc;simp[hc]
 frame:=λi h h' st hk=>by
  obtain⟨hL,f,hi,hf⟩:=st;refine⟨hL.at λo e=>hk a (by simp) o e,f,hi.at λo e=>hk I (by simp) o e,?_⟩;cases r with
  |text=>exact hf
  |plain=>exact hf
  |drawn =>
   obtain⟨e1,o,e,h1,h2⟩:=hf;exact⟨e1,o,e,hk b (by simp) o h1,h2⟩
 item:=λi s Q E hi st hQ=>by
  obtain⟨hL,f,hI,hf⟩:=st;exact next_item hL hr hI hf dO hi λv h' f' hv h1 h2 h3=>hQ v h' s.toks hv ⟨hL.at λo e=>by rw[h3.2 a HM];exact e,f',h1,h2⟩ λc o hc e=>h3.extBut c o (λz=>hc (by simp[z])) e
 done:=λs Q E st hQ=>by
  obtain⟨hL,f,hI,hf⟩:=st;exact next_end hh hL hr hI hf dO λh' he=>hQ h' s.toks λc o hc e=>he c o (λz=>hc (by simp[z])) e
 self:=λi s Q E st hQ=>by
  obtain⟨hL,f,hI,hf⟩:=st;refine wpAny_pyIter_slot hI.ty X3 (cb X3 hI.ty QH ?_ (QW _));exact aa (ah (ah ⟨_,rfl,"set_iterator",_,hI.ty,v5.lookup,hQ⟩))
end
end ST

namespace ST
open PySem PyProof.Rows
theorem Rj:typeLookup (.type "set") "__len__"=pure (some (.builtin "set.__len__")):=by rw[iS,eX];kernel_rfl
section
variable{prog:Program}{w:World}{A:Around}{E:Value->Shared->Prop}{s:Shared}{a I b:Addr}{es:Array (Int×Value)}{ep:Nat}{t:SetTable}{pl:List Nat}
theorem QT(hh:A.handled=none)(hL:Lies s.heap a es ep t)(hw:Well (Led w) t)(hz:es.size<=10000){Q:List Value->Shared->Prop}(h:∀(vs:List Value) h' d' kX,vs.Perm (es.toList.map (·.2))->(∀c o,s.heap.get? c=some o->h'.get? c=some o)->s.heap.objs.size<=h'.objs.size->s.toks<=kX->Q vs { s with heap:=h',drawn:=d',toks:=kX }) :
  wpAny (model prog w) A (collect (.ref a)) Q E s:=by
 have dR:a<s.heap.objs.size:=let ⟨o,ho,_⟩:=hL.at_;au ho
 unfold collect;refine aa (wpAny_runValue (dZ F.entry_proto_collect ?_));rw[dE F.plain_proto_collect _];show wpAny _ A.in1 (newList [] >>= λl=>again (.builtin "list.__iadd__" ⟨[l,.ref a],[]⟩)) _ _ s;refine aa (bO ?_);refine ah ⟨kA F.plain_list_iadd _,dZ F.entry_list_iadd ?_⟩;rw[dE F.plain_list_iadd _];have pG:Lies (s.heap.push { cls:=.type "list",data:=.seq ([]:List Value).toArray }) a es ep t:=hL.at λo e=>ai _ e;have IB:(s.heap.push { cls:=.type "list",data:=.seq ([]:List Value).toArray }).get? s.heap.objs.size=some { cls:=.type "list",data:=.seq ([]:List Value).toArray }:=ax _ rfl;have dO:s.heap.objs.size≠a:=bH dR;have h1:Builtin.List.listSameRef (.ref s.heap.objs.size) (.ref a)=false:=by simp[Builtin.List.listSameRef,dO]
 show wpAny _ A.in1 (Builtin.List.listExtendWith (.ref s.heap.objs.size) (.ref a) (.ref s.heap.objs.size)) _ _ _;unfold Builtin.List.listExtendWith;refine aa (dI (Lies.ty (s:={ s with heap:=_ }) pG) ?_);rw[aE (by rw[h1];decide)];refine aa (SS (s:={ s with heap:=_ }) pG hw hz λr pl b f I h2 d2 hr hI hf hb Ip he wW XF=>?_);have oB:Lies h2 a es ep t:=pG.at λo e=>he a o e;have rJ:=he _ _ IB;refine aa (bT ?_);unfold Builtin.List.listLengthHint;refine aa (wpAny_specialOf (Lies.ty (s:={ s with heap:=h2,drawn:=d2 }) oB) Rj ?_);generalize Bo:("set.__len__":String)=HB;dsimp only;rw[show splitId HB=some ("set","__len__") from by subst Bo;decide +kernel];dsimp only;refine aa (hU (b:=true) (Lies.ty (s:={ s with heap:=h2,drawn:=d2 }) oB) (by rw[fS];kernel_rfl) ?_);rw[aE (by decide)];subst Bo;rw[aG (by decide +kernel)];refine aa (dI (Lies.ty (s:={ s with heap:=h2,drawn:=d2 }) oB) ?_);refine ah ?_;rw[aG (by decide +kernel)];refine aa (fb ?_);refine aa ?_;show wpAny _ A.in1 (updateSeq s.heap.objs.size (·.push .none) >>= λ_=>updateSeq s.heap.objs.size (·.pop)) _ _ _;refine aa (wpAny_updateSeq (s:={ s with heap:=h2,drawn:=d2 }) rJ rfl ?_);have By:=aS (Obj.mapSeq (·.push Value.none)) rJ rfl;refine wpAny_updateSeq (s:={ s with heap:=_,drawn:=d2 }) By rfl ?_;have IA:=aS (Obj.mapSeq (·.pop)) By rfl;have AM:∀c o,c≠s.heap.objs.size->h2.get? c=some o->((h2.update s.heap.objs.size (Obj.mapSeq (·.push Value.none))).update s.heap.objs.size (Obj.mapSeq (·.pop))).get? c=some o :=
  λc o hc e=>(bL _ _ (bR hc)).trans ((bL _ _ (bR hc)).trans e)
 have oq:s.heap.objs.size<(s.heap.push { cls:=.type "list",data:=.seq ([]:List Value).toArray }).objs.size:=by rw[tw];exact eB _
 have Xt:I≠s.heap.objs.size:=bH (ao oq wW);have Xs:b≠s.heap.objs.size:=by
  rcases Ip with z|z
  ·rw[z];exact bR dO
  ·exact bH (ao oq z)
 have W:=(Ux (prog:=prog) (w:=w) (A:=A.in1) (a:=a) (b:=b) (I:=I) (es:=es) (ep:=ep) (t:=t) (pl:=pl) hh hr hb (aK (ao (cu dR oq) wW))).toS;have st:Lies h2 a es ep t/\∃f,y9 h2 I a f 0 es.size ep/\J5 h2 t b pl 0 f r:=⟨oB,f,hI,hf⟩
 have jE:=W.frame 0 ({ s with heap:=h2,drawn:=d2 }:Shared) _ s.toks st (ak _) λc hc o e=>AM c o (λz=>by simp at hc;rcases hc with y|y|y<;>simp_all) e;refine ah ⟨kA F.plain_extend_loop _,codeAny_extend_loopS W (aO hz (by decide)) _ (λz=>by simp at z;rcases z with y|y|y<;>simp_all) _ es.size 0 _ _ _ rfl (cQ _) jE IA (ItemsOf.nil _) λs' sU c' hm lK jK=>?_⟩;show wpAny _ A (load s.heap.objs.size >>= _) _ _ s';refine aa (wpAny_load lK ?_);refine ah ?_;have eS:s'={ s with heap:=s'.heap,drawn:=d2,toks:=s'.toks }:=by
  obtain⟨iJ,g',d',kX,qu⟩:=s';have m1:g'=s.gens:=hm.gens;have m2:d'=d2:=hm.drawn;have m3:qu=s.os:=hm.os;subst m1;subst m2;subst m3
  rfl
 have eo:sU.toList=sS w a es ep pl r:=by
  have l1:(sS w a es ep pl r).length=es.size:=by rw[(CV hr).length_eq];simp
  apply Yc
  ·rw[l1];simpa using jK.1
  ·intro i h1 h2;have:=jK.2 i sU.toList[i] (by simp at h1 ⊢);dsimp only at this;rw[aq h2] at this;exact(aF this).symm
 rw[eo,eS];refine h _ _ d2 s'.toks (CV hr) (λc o e=>?_) (dt (au lK)) hm.toks;have hc:c<s.heap.objs.size:=au e;have n1:c≠s.heap.objs.size:=aK hc;have n2:c≠I:=aK (ao (cu hc oq) wW);exact hm.heap c o (by simp[n1,n2]) (AM c o n1 (he c o (ai _ e)))
theorem Vn{ks:List Int}(hh:A.handled=none)(hS:m8 prog w s.heap a ks)(XE:ks.length<64){Q:Value->Shared->Prop}(h:∀(S:Addr) (vs:List Value) (ns:List Int) e h' d' kX,IntsAre vs ns->ns.Perm ks->ns.Pairwise (·<=·)->h'.get? S=some (seqObj "list" vs.toArray e)->s.heap.objs.size<=S->(∀c o,s.heap.get? c=some o->h'.get? c=some o)->s.toks<=kX->Q (.ref S) { s with heap:=h',drawn:=d',toks:=kX }) :
  wpAny (model prog w) A (call (.builtin "sorted") [.ref a]) Q E s:=by
 obtain⟨o,es,ep,t,ho,hx,hd,nk,hp,hn,hb,hf,hw⟩:=hS;have hL:Lies s.heap a es ep t:=⟨⟨o,ho,hx.1,hd⟩,hf⟩
 have hz:es.size=ks.length:=by rw[<- hp.length_eq];simp
 refine Calls.call_function_entry kind_sorted plain_sorted entry_sorted (args_sorted1 _) ?_;unfold Builtin.«sorted»;refine aa (m:=checkCount "sorted" 1 1 _) (ah ?_);refine aa (QT (A:=A.in1) hh hL hw (by omega) λvs h1 d1 vH hv he oq tV=>?_);have hI:IntsAre vs (vs.map toI):=by
  have all:∀v∈vs,∃tk,v=.int (toI v) tk:=λv qU=>by
   obtain⟨e,wJ,rfl⟩:=aT.mp (hv.mem_iff.mp qU);obtain⟨tk,h1,_⟩:=Fe nk wJ;exact⟨tk,h1⟩
  clear hv
  induction vs with
  |nil=>exact .nil
  |cons v r ih =>
   obtain⟨tk,e⟩:=all v (by simp);have:=IntsAre.cons (toI v) tk (ih λu hu=>all u (by simp[hu]));rw[<- e] at this;exact this
 have hk:(vs.map toI).Perm ks:=by
  refine(hv.map toI).trans ?_;rw[dX];exact hp
 have hl:vs.length<64:=by rw[hv.length_eq];simp;omega
 refine aa (wpAny_newList (s:={ s with heap:=h1,drawn:=d1,toks:=vH }) ?_);have rg:(h1.push (seqObj "list" vs.toArray 0)).get? h1.objs.size=some (seqObj "list" vs.toArray 0):=ax _ rfl;refine aa (bT (cb (s:={ s with heap:=h1.push (seqObj "list" vs.toArray 0),drawn:=d1,toks:=vH }) slot_list_sort ⟨_,rg,rfl⟩ entry_list_sort (list_sort_tree rg hI hl λout vT a1 a2 a3=>⟨_,rfl,?_⟩) (args_list_sort _)));obtain⟨e,wJ⟩:=sortedHeap_at (vs:=vs) (out:=out) rg;refine ah ⟨_,rfl,h h1.objs.size out.toList vT e _ d1 vH a1 (a2.trans hk) a3 wJ oq (λc o' e'=>?_) tV⟩;have hc:=au (he c o' e');rw[sortedHeap_old (aK hc) (by rw[tw];exact Nat.lt_succ_of_lt hc)];exact ai _ (he c o' e')
end
end ST

namespace ST
open PySem PyProof.Rows
def i8(ks xs:List Int):List Int:=xs.foldl x8 ks
theorem F3:∀(xs ks:List Int),(i8 ks xs).length<=ks.length+xs.length
 |[],ks=>by simp[i8]
 |x::xs,ks=>by
  have:=F3 xs (x8 ks x);have h2:=Ww ks x;show(i8 (x8 ks x) xs).length<=_;simp only[List.length_cons];omega
theorem Ec:∀(xs ks:List Int) (k:Int),k∈i8 ks xs↔k∈ks\/k∈xs
 |[],ks,k=>by simp[i8]
 |x::xs,ks,k=>by
  show k∈i8 (x8 ks x) xs↔_;rw[Ec xs];unfold x8;split
  ·rename_i h;constructor
   ·rintro(a|a)
    ·exact .inl a
    ·exact .inr (by simp[a])
   ·rintro(a|a)
    ·exact .inl a
    ·rcases az.mp a with rfl|b
     ·exact .inl h
     ·exact .inr b
  ·simp[or_assoc]
theorem DH:∀(xs ks:List Int),ks.Nodup->(i8 ks xs).Nodup
 |[],ks,h=>h
 |x::xs,ks,h=>by
  show(i8 (x8 ks x) xs).Nodup;refine DH xs _ ?_;unfold x8;split
  ·exact h
  ·rename_i hk;rw[dc];exact⟨h,by simp,λa ha b hb=>by simp at hb;subst hb;exact λz=>hk (z▸ha)⟩
section
variable{prog:Program}{w:World}{A:Around}{E:Value->Shared->Prop}{s:Shared}{a:Addr}
theorem UQ:Well (Led w) (SetTable.fresh 0 0 (Led w)):=⟨by simp[jv,SetTable.fresh],rfl,rfl⟩
theorem Du{h:Heap}(e:h.get? a=some { cls:=.type "set",dict:=none,data:=.set #[] 0 (.fresh 0 0 (Led w)) }):m8 prog w h a [] :=
 ⟨_,#[],0,_,e,⟨rfl,rfl,rfl⟩,rfl,(by intro e he;simp at he),by simp,by simp,by decide,by rfl,UQ⟩
theorem Td{R:Result->Shared->Prop}{I:Addr}{fp wr:List Addr}{G:Array GenState->Array GenState->Prop}{n:Nat}{P:Nat->Value->Prop}{St:Nat->Shared->Prop}(W:WalksS prog w A.in1 I fp wr G n P St)(Bx:a∉fp){ns:List Int}(hn:n=ns.length)(hv:∀i v,P i v->∃tk,v=.int (ns.getD i 0) tk)(hb:n+1<scanBound):∀(k i:Nat) (s:Shared),i+k=n->St i s->m8 prog w s.heap a (i8 [] (ns.take i)) ->
   (∀s',Moved (a::wr) G s s'->m8 prog w s'.heap a (i8 [] ns)->R (.ok (.ret .none)) s')->codeAny (model prog w) A (.builtin "set.update.loop" ⟨[.ref a,.ref I],[]⟩) R s:=by
 have hw:a∉wr:=λh=>Bx (W.sub _ h);have qo:∀b∈wr,b∈a::wr:=λb hb=>by simp[hb]
 intro k
 induction k with
 |zero =>
  intro i s e st hS hR;obtain rfl:i=n:=by omega
  refine dZ iy ?_;rw[dE dw _];unfold Builtin.«set.update.loop»;refine aa (W.done s _ _ st λs' m=>ah (hR s' (m.mono qo) (m8.at ?_ λo e=>m.heap a o hw e)));rw[hn,fV] at hS;exact hS
 |succ k ih =>
  intro i s e st hS hR;have dR:i<ns.length:=by omega
  refine dZ iy ?_;rw[dE dw _];unfold Builtin.«set.update.loop»;refine aa (W.item i s _ _ (by omega) st λv s' hP kl m=>?_);obtain⟨tk,rfl⟩:=hv i v hP;have lK:=m8.at hS λo e=>m.heap a o hw e;have hl:=F3 (ns.take i) [];rw[bX] at hl;simp only[List.length_nil] at hl;refine aa (bT ?_);unfold setAdd;refine bT (aa ((intKind prog w).pyHash (k:=ns.getD i 0) (fc _ _ _ _) ?_));refine FI (s:={ s' with toks:=s'.toks+1 }) lK (by omega) λh' bb sb rJ=>?_;have e2:x8 (i8 [] (ns.take i)) (ns.getD i 0)=i8 [] (ns.take (i+1)):=by
   unfold i8;rw[hW,WU,aq dR];simp[List.getD,dR]
  rw[e2] at rJ;refine ah ⟨kA dw _,ih (i+1) _ (by omega) (W.frame _ s' _ _ kl (fC _) λb hb o e=>by rw[sb.2 b λz=>Bx (z▸hb)];exact e) rJ λs2 m2 h2=>?_⟩;exact hR s2 (Moved.trans W.gtrans ((m.mono qo).then_heap (fC _) λb o hb e=>by rw[sb.2 b λz=>hb (by rw[z];simp)];exact e) m2) h2
end
end ST

namespace ST
open PySem PyProof.Rows
section
variable{prog:Program}{w:World}{A:Around}{E:Value->Shared->Prop}{s:Shared}{a:Addr}
noncomputable abbrev p7(w:World):Obj:={ cls:=.type "set",dict:=none,data:=.set #[] 0 (.fresh 0 0 (Led w)) }
theorem Fq{Q:Value->Shared->Prop}(h:Q (.ref s.heap.objs.size) { s with heap:=s.heap.push (p7 w) }):wpAny (model prog w) A (newSet (.type "set")) Q E s:=by
 unfold newSet;refine aa (Z1 ?_);exact bO h (cQ _)
theorem WC(x:Value){Q:Value->Shared->Prop}(h:Q (.ref s.heap.objs.size) { s with heap:=s.heap.push (p7 w) }):codeAny (model prog w) A (.call (.builtin "set.__new__") ⟨[.type "set",x],[]⟩) (wants Q E) s:=by
 refine pZ (?_:wpAny _ A.in1 (do
  checkBuiltinCall "set.__new__" ⟨[.type "set",x],[]⟩
  again (.builtin "set.__new__" ⟨[.type "set",x],[]⟩)) _ _ s)
 refine aa (dB (F.newCall_set_1 x) (ah ⟨kA F.plain_set_new _,?_⟩));refine dZ F.entry_set_new ?_;rw[dE F.plain_set_new _];unfold Builtin.«set.__new__»;have sub:=sub_set_self;refine aa (m:=Builtin.Frozenset.newClass "set" _) ?_;unfold Builtin.Frozenset.newClass;dsimp only;refine aa (dB (a:=true) (by first|rfl|(simp[isType];rfl)) ?_);rw[aE (by decide)];refine aa (dB sub ?_);rw[aE (by decide)];refine ah ?_;exact aa (Fq (ah h))
theorem CP{vs:List Value}{ns:List Int}(h:IntsAre vs ns):vs.length=ns.length:=by
 induction h with
 |nil=>rfl
 |cons n t r ih=>simp[ih]
def sy(h:Heap)(l:Addr)(items:Array Value):Prop:=h.IsList l items\/h.IsTuple l items
theorem sy.lt{h:Heap}{l:Addr}{items:Array Value}(x:sy h l items):l<h.objs.size:=by
 rcases x with⟨_,e,_⟩|⟨_,e,_⟩<;>exact au e
theorem RP{l:Addr}{items:Array Value}{ns:List Int}{Q:Fin->Shared->Prop}(hh:A.handled=none)(hS:s.heap.get? a=some (p7 w))(hl:sy s.heap l items)(hi:IntsAre items.toList ns)(hb:items.size+1<scanBound)(dO:a≠l)(h:∀h' tk,m8 prog w h' a (i8 [] ns)->(∀b o,b≠a->s.heap.get? b=some o->h'.get? b=some o)->s.toks<=tk->wpAny (model prog w) A (ret .none) Q E { s with heap:=h',toks:=tk }) :
  wpAny (model prog w) A (Builtin.«set.__init__» ⟨[.ref a,.ref l],[]⟩) Q E s:=by
 have hT:s.TypeIs (.ref a) "set":=⟨_,hS,rfl⟩
 have Xu:Lies s.heap a #[] 0 (SetTable.fresh 0 0 (Led w)):=⟨⟨_,hS,rfl,rfl⟩,rfl⟩
 have dR:=hl.lt;have Bk:l≠s.heap.objs.size:=aK dR;unfold Builtin.«set.__init__» noKeywords;dsimp only;refine aa (dB (a:=()) rfl ?_);have nm:∀{Q':String->Shared->Prop},(∀x,Q' x s)->wpAny (model prog w) A (typeNameOfCut 200 (.ref a)) Q' E s:=λ{Q'} q=>by
  unfold typeNameOfCut shownTypeOf;refine aa (aa (dI hT ?_));rw[aE (by decide)];refine ah (dB (a:="set") ?_ (q _));unfold typeNameCut;dsimp only
  first|(unfold typeName;rw[find?_eq_fast];kernel_rfl)|kernel_rfl
 refine aa (nm λx=>?_);refine aa (m:=checkCount _ 0 1 _) (ah ?_);refine aa (m:=Builtin.Frozenset.addrOf _) (ah ?_);unfold setUsed;refine aa (aa (bV hS rfl rfl (ah ?_)));rw[aE (by show ¬((SetTable.fill (SetTable.fresh 0 0 (Led w)) != 0)=true);unfold SetTable.fill;simp[SetTable.fresh])];unfold Builtin.Frozenset.updateFrom Builtin.Frozenset.isAnySet;obtain⟨c,pE,wR,it,hit,Bm,St,W,cR⟩:∃c:String,(c="list"\/c="tuple")/\s.TypeIs (.ref l) c/\∃it:Obj,(∀Q':Value->Shared->Prop,Q' (.ref s.heap.objs.size) { s with heap:=s.heap.push it }->wpAny (model prog w) A (pyIter (.ref l)) Q' E s) /\
   (∀b o,s.heap.get? b=some o->(s.heap.push it).get? b=some o)/\∃St:Nat->Shared->Prop,WalksS prog w A.in1 s.heap.objs.size [s.heap.objs.size,l] [s.heap.objs.size] (λa b=>b=a) items.size (λi v=>items[i]?=some v) St/\St 0 { s with heap:=s.heap.push it }:=by
  rcases hl with hl|hl
  ·obtain⟨o,ho,hc,_⟩:=id hl;exact⟨"list",.inl rfl,⟨o,ho,hc⟩,_,λQ' q=>gD hl q,λb o e=>ai _ e,_,(Walks.list (A:=A.in1) hh _ l Bk items).toS,⟨⟨_,ax _ rfl,rfl,rfl⟩,hl.push _⟩⟩
  ·obtain⟨o,ho,hc,_⟩:=id hl;exact⟨"tuple",.inr rfl,⟨o,ho,hc⟩,_,λQ' q=>wpAny_pyIter_tuple hl q,λb o e=>ai _ e,_,(Walks.tuple (A:=A.in1) hh _ l Bk items).toS,⟨⟨_,ax _ rfl,rfl,rfl⟩,hl.push _⟩⟩
 refine aa (aa (aa (hU (b:=false) wR (by rcases pE with rfl|rfl<;>(rw[fS];kernel_rfl)) ?_)));show wpAny (model prog w) A (isInstance (Value.ref l) (Value.type "frozenset")) _ _ _;refine hU (b:=false) wR (by rcases pE with rfl|rfl<;>(rw[fS];kernel_rfl)) ?_;rw[aE (by decide)];refine aa (dI wR ?_);rw[aE (by rcases pE with rfl|rfl<;>decide)];refine aa (hit _ ?_);refine aa (wpAny_runValue ?_);have Iv:a<s.heap.objs.size:=au hS;have hsz:items.size=ns.length:=by rw[<- bj];exact CP hi
 refine Td (a:=a) (ns:=ns) W (by simp only[List.mem_cons,List.not_mem_nil,or_false,not_or];exact⟨aK Iv,dO⟩) hsz (λi v hv=>IntsAre.int_at hi i v (by rw[gO];exact hv)) hb items.size 0 _ (by omega)
  cR (Du (Bm _ _ hS)) λs' m lK=>?_
 have eS:s'={ s with heap:=s'.heap,toks:=s'.toks }:=by
  obtain⟨iJ,g',d',kX,qu⟩:=s';have m1:g'=s.gens:=m.gens;have m2:d'=s.drawn:=m.drawn;have m3:qu=s.os:=m.os;subst m1;subst m2;subst m3
  rfl
 rw[eS];refine ah (h _ _ lK (λb o hb e=>?_) m.toks);exact m.heap b o (by simp only[List.mem_cons,List.not_mem_nil,or_false,not_or];exact⟨hb,aK (au e)⟩) (Bm _ _ e)
theorem Wz{l:Addr}{items:Array Value}{ns:List Int}{Q:Value->Shared->Prop}(hh:A.handled=none)(hl:sy s.heap l items)(hi:IntsAre items.toList ns)(hb:items.size+1<scanBound)(h:∀h' tk,m8 prog w h' s.heap.objs.size (i8 [] ns)->(∀b o,s.heap.get? b=some o->h'.get? b=some o)->s.toks<=tk->Q (.ref s.heap.objs.size) { s with heap:=h',toks:=tk }) :
  wpAny (model prog w) A (call (.type "set") [.ref l]) Q E s:=by
 have cs:=F.called_set;obtain⟨_,_,y1⟩:=cs.mro;have y2:=cs.made;have y3:=cs.sub;have y4:=cs.notType;have y5:=cs.canCreate;have y6:=F.typeCall_set_1 (.ref l);refine wpAny_call (pZ (?_:wpAny _ _ (callAny (.type "set") _) _ _ _));refine ah ⟨Code.quiet_builtin _ (by decide +kernel),dZ F.entry_type_call ?_⟩;rw[Around.under_plain (weight_type_call_type "set" [.ref l] []) rfl]
 repeat (any_goals (first|assumption|wp_step))
 refine fI (WC (.ref l) (E:=E) (Q:=λv s1=>v=.ref s.heap.objs.size/\s1={ s with heap:=s.heap.push (p7 w) }) ⟨rfl,rfl⟩) ?_;rintro(e|fl) s1 hr
 ·exact hr
 cases fl with
 |next=>exact hr
 |brk=>exact hr
 |cont=>exact hr
 |ret v =>
 obtain⟨rfl,rfl⟩:=hr;have hS:(s.heap.push (p7 w)).get? s.heap.objs.size=some (p7 w):=ax _ rfl;have hT:Shared.TypeIs { s with heap:=s.heap.push (p7 w) } (.ref s.heap.objs.size) "set":=⟨_,hS,rfl⟩
 have y7:=cs.init.lookup;have y8:=cs.init.bind (.ref s.heap.objs.size)
 repeat (any_goals (first|assumption|wp_step))
 refine fI (codeAny_call_builtin (R:=wants (λv s2=>v=.none/\∃h' tk,s2={ s with heap:=h',toks:=tk }/\m8 prog w h' s.heap.objs.size (i8 [] ns)/\(∀b o,s.heap.get? b=some o->h'.get? b=some o)/\s.toks<=tk) E) cs.init.plain F.entry_set_init (check_set_init_1 hT ?_)) ?_
 ·have iK:sy (s.heap.push (p7 w)) l items:=hl.imp (·.push _) (·.push _);have HQ:=hl.lt;refine RP (s:={ s with heap:=s.heap.push (p7 w) }) (by simp[hh]) hS iK hi hb (bH HQ) λh' tk h1 h2 h3=>ah ⟨rfl,h',tk,rfl,h1,λb o e=>h2 b o (aK (au e)) (ai _ e),h3⟩
 ·rintro(e|fl) s2 hr
  ·exact hr
  cases fl with
  |next=>exact hr
  |brk=>exact hr
  |cont=>exact hr
  |ret v =>
  obtain⟨rfl,h',tk,rfl,h1,h2,h3⟩:=hr
  repeat (any_goals (first|assumption|wp_step))
  exact h _ _ h1 h2 h3
end
end ST

namespace L2
open PySem PySem.Spec PyProof.Rows
def oU(X:Cx)(a:Addr)(ks:List Int):HO:=.ext λh=>ST.m8 X.prog X.w h a ks
def A6(ns:List Int):List Int:=(ST.i8 [] ns).mergeSort (λa b=>decide (a<=b))
theorem DJ:∀{a b:List Int},a.Perm b->a.Pairwise (·<=·)->b.Pairwise (·<=·)->a=b
 |[],b,h,_,_=>by rw[List.nil_perm.mp h]
 |x::a,[],h,_,_=>absurd h.length_eq (by simp)
 |x::a,y::b,h,h1,h2=>by
  rw[cT] at h1 h2;have e:x=y:=by
   have m1:=h.mem_iff (a:=y);have m2:=h.mem_iff (a:=x);simp only[List.mem_cons,true_or,true_iff,iff_true] at m1 m2;rcases m1 with z|z
   ·exact z.symm
   ·rcases m2 with z'|z'
    ·exact z'
    ·have:=h1.1 y z;have:=h2.1 x z';omega
  subst e;rw[DJ (h.cons_inv) h1.2 h2.2]
theorem Vm(ns:List Int):(A6 ns).Pairwise (·<=·):=by
 have:=List.pairwise_mergeSort (le:=λa b:Int=>decide (a<=b)) (λa b c h1 h2=>by simp at *;omega) (λa b=>by simp;omega) (ST.i8 [] ns);exact this.imp λh=>by simpa using h
theorem K6(ns:List Int):(A6 ns).Perm (ST.i8 [] ns):=List.mergeSort_perm _ _
theorem DM(ns:List Int):(A6 ns).length<=ns.length:=by
 rw[(K6 ns).length_eq];have:=ST.F3 ns [];simpa using this
section
variable{X:Cx}{pins:List (Addr×Obj)}{Z:St}{H:Hp}{s:Shared}
theorem Inv.draw(I:Inv X pins Z H s)(d:Drawn):Inv X pins Z H { s with drawn:=d } :=
 I.step (g':=s.gens) (t':=s.toks) (d':=d) (ch:=[]) (by simp) (λb o _ _ _ e _=>e) (λb o _ _ _ e _=>⟨o.slots,e⟩) (λb o _ _ e=>e) (λb o _ e=>⟨o,e⟩) (λ_ _ e=>e) (λ_ _ _ e=>e) (λb ps e=>⟨#[],by simp[e]⟩) (λm hm=>hm) I.bx I.bare
theorem FE{h:Heap}{H:Hp}{a:Addr}{ks:List Int}(x:ST.m8 X.prog X.w h a ks):j8 X.prog X.w H h a (oU X a ks) :=
 ⟨x,by obtain⟨o,_,_,_,e,_⟩:=x;exact⟨o,e⟩,λh1 h2 y k=>y.at k⟩
theorem Vs{ns:List Int}{vs:List Value}(h:IntsAre vs ns):Vals (ns.map V.int) vs:=by
 induction h with
 |nil=>exact .nil
 |cons n t r ih=>exact .cons ⟨t,rfl⟩ ih
theorem F0:∀{ns:List Int} {vs:List Value},Vals (ns.map V.int) vs->IntsAre vs ns
 |[],_,h=>by cases h;exact .nil
 |n::ns,_,h=>by
  cases h with
  |cons r rr =>
   obtain⟨t,rfl⟩:=r;exact .cons n t (F0 rr)
theorem Z0(hc:X.calm=true):j9 X (.type "set") (λxs H Q=>∃a ns,xs=[.ref a]/\eQ X.K H a (ns.map V.int)/\ns.length<60/\∀p,H p=none->Q (.ref p) (upd H p (oU X p (ST.i8 [] ns)))):=by
 intro pins s Z H xs us Q I r h;obtain⟨a,ns,rfl,hq,hl,q⟩:=h;cases r with
 |cons r rr =>
 cases rr;cases r;obtain⟨aQ,rv,p,hz⟩:=I.list hq;have hI:=F0 rv;have hlen:=ST.CP hI;refine ST.Wz (ns:=ns) (I.ok.hd hc) (.inl p.isList) (by simpa using hI) (by rw[ay,hlen];exact ao (Nat.succ_lt_succ hl) (by decide)) λh' tk hS hk _=>?_;exact⟨.ref _,_,I.laid (a:=s.heap.objs.size) (t':=tk) hk (ak _) (FE hS),rfl,q _ (I.bx.fresh (ak _))⟩
theorem O3(hc:X.calm=true):j9 X (.builtin "sorted") (λxs H Q=>∃a ns,xs=[.ref a]/\H a=some (oU X a (ST.i8 [] ns))/\ns.length<60/\∀p,H p=none->Q (.ref p) (upd H p (.lst ((A6 ns).map V.int)))):=by
 intro pins s Z H xs us Q I r h;obtain⟨a,ns,rfl,ha,hl,q⟩:=h;cases r with
 |cons r rr =>
 cases rr;cases r;have hS:ST.m8 X.prog X.w s.heap a (ST.i8 [] ns):=(I.bx a _ ha).1;have hn:=ST.F3 ns [];simp only[List.length_nil] at hn;refine ST.Vn (I.ok.hd hc) hS (by omega) λS vs vT e h' d' kX h1 h2 h3 h4 h5 h6 _=>?_;have e1:vT=A6 ns:=DJ (h2.trans (K6 ns).symm) h3 (Vm ns);subst e1;have hz:=DM ns;exact⟨.ref S,_,(I.laid (a:=S) (o:=.lst ((A6 ns).map V.int)) (t':=kX) h6 h5 ⟨by rw[aj];exact aO hz (aO (dt hl) (by decide)),vs,e,Vs h1,h4⟩).draw d',rfl,q S (I.bx.fresh h5)⟩
end
end L2

namespace ST
open PySem PyProof.Rows
theorem Wy{prog:Program}{w:World}{A:Around}{E:Value->Shared->Prop}{s:Shared}{a:Addr}{ks:List Int}{k:Int}{tk:Tok}{Q:Value->Shared->Prop}(hS:m8 prog w s.heap a ks)(hr:ks.length+1<scanBound)(h:∀h',Heap.SameBut a s.heap h'->m8 prog w h' a (x8 ks k)->Q .none { s with heap:=h',toks:=s.toks+1 }):wpAny (model prog w) A (call (.builtin "set.add") [.ref a,.int k tk]) Q E s:=by
 have hT:s.TypeIs (.ref a) "set":=let ⟨o,_,_,_,e,x,_⟩:=hS;⟨o,e,x.1⟩
 refine cb F.slot_set_add hT F.entry_set_add ?_ (F.args_set_add_2 _ _);have go:∀(Q':Fin->Shared->Prop),(∀h',Heap.SameBut a s.heap h'->m8 prog w h' a (x8 ks k)->wpAny (model prog w) A.in1 (ret .none) Q' E { s with heap:=h',toks:=s.toks+1 })->wpAny (model prog w) A.in1 (do let _ <- setAdd a (.int k tk);ret .none) Q' E s:=λQ' q=>by
  unfold setAdd;refine aa (bT (aa ((intKind prog w).pyHash (k:=k) (fc _ _ _ _) ?_)));exact FI (s:={ s with toks:=s.toks+1 }) hS hr λh' b sb S2=>q h' sb S2
 unfold Builtin.«set.add» Builtin.Frozenset.oneOther;simp only[List.isEmpty_nil,bind_assoc];unfold Builtin.Frozenset.addrOf;refine aa (ah ?_)
 try dsimp only
 refine aa (ah ?_)
 try dsimp only
 exact go _ λh' sb S2=>ah ⟨_,rfl,h h' sb S2⟩
end ST
namespace L2
open PySem PySem.Spec PyProof.Rows
section
variable{prog:Program}{w:World}{A:Around}{R:Result->Shared->Prop}{s:Shared}
theorem Vp(elt target iter:Expr)(ifs:List Expr)(scope:Scope)(pos:Pos)(it acc:Value)(env:Env):compTurn (.SetComp elt [⟨target,iter,ifs,0⟩] scope pos) 0 it acc env=(do
      standAt iter.pos
      match <- pyNext it with
      |none=>pure (.done .next)
      |some v =>
        letOwnedTupleGo target it v
        assign target env v
        let mut ok:=true
        for c in ifs do if ok then ok <- isTrue c env (eval c env)
        if ok then(do let x <- eval elt env;standAt elt.pos;let _ <- call (.builtin "set.add") [acc,x])
        again (.compLoop (.SetComp elt [⟨target,iter,ifs,0⟩] scope pos) 0 it acc env)):=by rfl
theorem RA{elt target iter:Expr}{ifs:List Expr}{scope:Scope}{pos:Pos}{it acc:Value}{env:Env}(I:Nat->Shared->Prop)(turn:∀ n s,I n s->wpAny (model prog w) A (pyNext it) (λr bD=>match r with
   |none=>R (.ok .next) bD
   | some v=>wpAny (model prog w) A (letOwnedTupleGo target it v) (λ_ bD=>wpAny (model prog w) A (assign target env v) (λ_ eT =>
     wpAny (model prog w) A (forIn ifs true λc r=>if r=true then do let ok <- isTrue c env (eval c env);pure (ForInStep.yield ok) else pure (ForInStep.yield r)) (λok dS =>
      if ok=true then wpAny (model prog w) A (eval elt env) (λx iA =>
       wpAny (model prog w) A (call (.builtin "set.add") [acc,x]) (λ_ kY=>∃ m,m < n/\I m kY) (λ_ _=>False) iA) (λ_ _=>False) dS
      else ∃ m,m < n/\I m dS) (λ_ _=>False) eT) (λ_ _=>False) bD) (λ_ _=>False) bD) (λ_ _=>False) s)(n:Nat)(h:I n s) :
  codeAny (model prog w) A (.compLoop (.SetComp elt [⟨target,iter,ifs,0⟩] scope pos) 0 it acc env) R s:=by
 refine codeAny_loop rfl I (λn s hI=>?_) n h;show wpAny _ A ((compTurn (.SetComp elt [⟨target,iter,ifs,0⟩] scope pos) 0 it acc env).onRaise (λx=>do noteFrame x env;theTreesLotGoes x)) _ _ s;refine wpAny_noted ?_;rw[Vp];refine aa (dq (aa (bg (turn n s hI) (λr bD cX=>?_) λ_ _ h'=>h'.elim)));cases r with
 |none=>exact ah cX
 |some v =>
  refine aa (bg cX (λ_ bD cX=>?_) λ_ _ h'=>h'.elim);refine aa (bg cX (λ_ eT gT=>aa (bg gT (λok dS lC=>?_) λ_ _ h'=>h'.elim)) λ_ _ h'=>h'.elim);cases ok with
  |false=>exact wpAny_pure ⟨rfl,lC⟩
  |true =>
   exact aa (aa (bg lC (λx iA oo=>aa (dq (aa (bg oo (λ_ kY om=>ah (ah ⟨rfl,om⟩)) λ_ _ h'=>h'.elim)))) λ_ _ h'=>h'.elim))
theorem Vi{elt target iter:Expr}{ifs:List Expr}{scope:Scope}{pos:Pos}{it acc:Value}{env:Env}(h0:codeAny (model prog w) A (.compLoop (.SetComp elt [⟨target,iter,ifs,0⟩] scope pos) 0 it acc env) R s)(h:wpAny (model prog w) A (pyIter it) (λBb s'=>codeAny (model prog w) A (.compLoop (.SetComp elt [⟨target,iter,ifs,0⟩] scope pos) 0 Bb acc env) R s') (notedBy (model prog w) A env λx s'=>R (.error x) s') s) :
  codeAny (model prog w) A (.compStart (.SetComp elt [⟨target,iter,ifs,0⟩] scope pos) 0 it acc env) R s:=by
 refine pZ (?_:wpAny _ _ ((compStart (.SetComp elt [⟨target,iter,ifs,0⟩] scope pos) 0 it acc env).onRaise (λx=>do noteFrame x env;standAt theWindowsPlace)) _ _ s);refine wpAny_notedAt ?_;unfold compStart;refine aa (nK (wpAny_ite ?_));split
 ·first
   |exact ah ⟨rfl,h0⟩
   |exact aa (ah (ah ⟨rfl,h0⟩))
 ·refine aa (fb ?_);exact aa (dq (aa (bg h (λBb s' h'=>ah ⟨rfl,h'⟩) λ_ _ x=>x)))
end
def ye(o:Obj):Prop:=∀v,o.data≠.cell v
def NY(X:Cx)(wi:TI)(d6:List Nat)(n:Nat)(g:TG)(tc:TT)(te:TE):TE:=λZ H Q=>wi Z H λJ H1=>∃W:Nat->Nat->List Int->St->Hp->Prop,(∃m,W 0 m [] (v9 Z d6 n) H1)/\∀i m ys Z H,W i m ys Z H ->
 (J.stop i H/\∀p,H p=none->Q (.ref p) (upd H p (oU X p (ST.i8 [] ys)))) \/
 (J.go i H/\ys.length < 60/\∀ x H',J.nP i H x H'->g x Z H' λbY H2=>tc bY H2 λb H3 =>
  if b=true then te bY H3 λy H4=>∃ k,y=.int k/\∃ m',m' < m/\W (i + 1) m' (ys ++ [k]) bY H4 else ∃ m',m' < m/\W (i + 1) m' ys bY H3)
section
variable{X:Cx}{pins:List (Addr×Obj)}{Z:St}{H:Hp}{s:Shared}
theorem Inv.Ob{D:Addr}{φ:Heap->Prop}(I:Inv X pins Z H s)(f:w5 X pins H D)(hs:X.cE.heap.objs.size<=D)(ho:j8 X.prog X.w (upd H D (.ext φ)) s.heap D (.ext φ)):Inv X pins Z (upd H D (.ext φ)) s:=by
 obtain⟨f0,f1,f2,f3,f4,f5⟩:=f;have dO:∀b o,X.cE.heap.get? b=some o->b≠D:=λb o e z=>absurd (au e) (by rw[z];exact ja.mpr hs);have tup:∀b u,H b=some u->upd H D (.ext φ) b=some u:=λb u e=>by rw[f9 (j4 e f0)];exact e
 refine⟨I.ok,I.os,I.bare,⟨?_,?_,?_,I.base.there,?_,?_,?_⟩,I.loc,I.cell,?_,?_,?_,?_,I.len⟩
 ·exact λb o e n1 n2 n3=>I.base.keep b o e n1 n2 n3
 ·exact λb o e n1 n2 n3=>I.base.slot b o e n1 n2 n3
 ·exact λb o e n1 n2=>by rw[f9 (dO b o e)];exact I.base.free b o e n1 n2
 ·exact λb xs e=>tup _ _ (I.base.fY b xs e)
 ·exact λb o u e=>tup _ _ (I.base.fL b o u e)
 ·exact λb ps e=>by
   obtain⟨more,q⟩:=I.base.fZ b ps e;exact⟨more,tup _ _ q⟩
 ·rw[f9 f1.symm];exact I.free
 ·exact λx c e=>by rw[f9 (f4 x c e)];exact I.dA x c e
 ·intro p hp;obtain⟨p1,p2,p3⟩:=I.pin p hp;exact⟨p1,by rw[f9 (f5 p hp)];exact p2,p3⟩
 ·intro a o e;by_cases ha:a=D
  ·subst ha;rw[l0] at e;cases e;exact ho
  ·rw[f9 ha] at e;have q:=I.bx a o e;refine q.M0 (λb u _ h=>h) (λb hb=>tup _ _ hb) (λb xs hb=>tup _ _ hb)
theorem QS{elt tg iter:Expr}{ifs:List Expr}{scope:Scope}{N':List Str}{d6:List Nat}{cl:List (Str×Addr)}{pos:Pos}{it:Addr}{fp:List Addr}{tn:Nat->Heap->Prop}{J:It}{g:TG}{tc:TT}{te:TE}{RR:Value->Addr->Result->Shared->Prop}{E:Value->Shared->Prop}{W:Nat->Nat->List Int->St->Hp->Prop}{m0:Nat}{Q:VK}(S:cP X scope N' d6 cl)(hc:X.calm=true)(hg:∀C s H,PG (d7 X pins scope N' cl C s H fp) tg g)(ht:∀C s H,ka (d7 X pins scope N' cl C s H fp) ifs tc)(he:∀C s H,PE (d7 X pins scope N' cl C s H fp) elt te)(I:Inv X pins Z H s)(T:Turn X.prog X.w X.K tg J fp it tn)(st:tn 0 s.heap)(hf:∀b∈fp,w5 X pins H b)(w0:W 0 m0 [] (v9 Z d6 N'.length) H)(turn:∀ i m ys Z H,W i m ys Z H->(J.stop i H/\∀ p,H p=none->Q (.ref p) (upd H p (oU X p (ST.i8 [] ys)))) \/
   (J.go i H/\ys.length < 60/\∀ x H',J.nP i H x H'->g x Z H' λbY H2=>tc bY H2 λb H3 =>
    if b=true then te bY H3 λy H4=>∃ k,y=.int k/\∃ m',m' < m/\W (i + 1) m' (ys ++ [k]) bY H4 else ∃ m',m' < m/\W (i + 1) m' ys bY H3))(wU:∀D C s' H' m,Inv X pins Z H' s'->Q (.ref D) H'->s'.heap.Ns C m->H' C=none->s.heap.objs.size<=C->RR (.ref D) C (.ok .next) s') :
  wpAny (model X.prog X.w) X.A (newSet (.type "set")) (λacc dS=>wpAny (model X.prog X.w) X.A (newFunctionEnv scope X.env.globals cl [] X.env.qual none .none (some X.env)) (λku iA =>
   codeAny (model X.prog X.w) X.A (.compStart (.SetComp elt [⟨tg,iter,ifs,0⟩] scope pos) 0 (.ref it) acc { ku with scope:=relabel scope X.env }) (RR acc ku.locals) iA) E dS) E s:=by
 refine ST.Fq (V9 λcX fz eL lI=>?_);dsimp only at fz eL lI ⊢;generalize oE:s.heap.push (ST.p7 X.w)=H2 at fz eL lI ⊢;generalize eD:s.heap.objs.size=D at *;have hC:H2.objs.size=D+1:=by rw[<- oE,dD,eD]
 generalize eC:H2.objs.size=C at *;have rL:D≠C:=by omega
 have lt:∀b o,s.heap.get? b=some o->b<D:=λb o e=>by rw[<- eD];exact au e
 have oj:D<=C:=by omega
 have mV:∀b o,s.heap.get? b=some o->b≠C:=λb o e=>aK (ao (lt b o e) oj);have lr:∀b o,s.heap.get? b=some o->b≠D:=λb o e=>aK (lt b o e);have old:∀b o,s.heap.get? b=some o->cX.get? b=some o:=λb o e=>eL b o (oE▸ai _ e);have jK:cX.get? D=some (ST.p7 X.w):=eL _ _ (by rw[<- oE,<- eD];exact ax _ rfl);have gU:∀b∈fp,∃o,s.heap.get? b=some o:=λb hb=>by
  obtain⟨o,e,_⟩:=T.obj _ _ st b hb;exact⟨o,e⟩
 have rK:D∉fp:=λhm=>by
  obtain⟨o,e⟩:=gU D hm;exact lr D o e rfl
 have X1:Inv (d7 X pins scope N' cl C s H fp) [] (v9 Z d6 N'.length) H { s with heap:=cX } :=
  I.DV S hc hf gU (by rw[eD];omega) ⟨_,fz⟩ old lI
 have qp:tn 0 cX:=T.keep _ _ _ st λb _ o e=>old b o e;have xG:∀{H':Hp},(∀b∈fp,H' b=none)->∀b∈fp,w5 (d7 X pins scope N' cl C s H fp) [] H' b:=λhn b hb=>by
  obtain⟨f0,f1,f2,f3,f4,f5⟩:=hf b hb;obtain⟨o,e⟩:=gU b hb;refine⟨hn b hb,?_,?_,.inl hb,λx c q=>(U8 lI q).elim (λl z=>absurd (cu (z▸l) (ao (lt b o e) oj)) (ba _)) λq=>f4 x c (S.cin x c q),λp hp=>?_⟩
  ·exact mV b o e
  ·exact λz=>by
    rcases az.mp (I.E5 b z) with z|z
    ·exact f1 z
    ·exact f2 z
  ·have iJ:p∈X.pn++pins:=by simpa[d7] using hp
   exact f5 p iJ
 have fD:∀{H':Hp},H' D=none->w5 (d7 X pins scope N' cl C s H fp) [] H' D:=λhn=>by
  refine⟨hn,rL,λz=>?_,.inr (by show s.heap.objs.size<=D;omega),λx c q=>?_,λp hp=>?_⟩
  ·exact absurd (I.sG (a:=D) (by omega)) λrh=>by
    rcases az.mp (I.E5 D z) with z|z
    ·exact absurd I.lt (by rw[<- z,eD];exact ba _)
    ·exact rh z
  ·rcases U8 lI q with l|q
   ·exact λz=>absurd (ao (z▸l) oj) (ba _)
   ·obtain⟨v,o,e,_⟩:=I.cell x c (S.cin x c q);exact lr c o e
  ·have iJ:p∈X.pn++pins:=by simpa[d7] using hp
   exact lr _ _ (I.pin p iJ).1
 have nZ:∀{H':Hp} {s':Shared} {bI:St} {oD:Obj},ye oD->Inv (d7 X pins scope N' cl C s H fp) [] bI H' s'->H' D=none->s'.heap.get? D=some oD ->
   Inv (d7 X pins scope N' cl C s H fp) [(D,oD)] bI H' s':=λ{H' s' bI oD} jJ J0 hn e=>J0.C5 λp hp=>by
  have z:p=(D,oD):=by simpa using hp
  subst z;obtain⟨f0,f1,f2,_⟩:=fD hn;exact⟨e,f0,f1,f2,jJ⟩
 have oI:∀{H':Hp} {oD:Obj},(∀b∈fp,H' b=none)->∀b∈fp,w5 (d7 X pins scope N' cl C s H fp) [(D,oD)] H' b:=λ{H' oD} hn b hb=>by
  obtain⟨f0,f1,f2,f3,f4,f5⟩:=xG hn b hb;refine⟨f0,f1,f2,f3,f4,λp hp=>?_⟩;have iJ:p∈(d7 X pins scope N' cl C s H fp).pn\/p=(D,oD):=by simpa using hp
  rcases iJ with z|z
  ·exact f5 p (dk _ z)
  ·subst z;exact λz=>rK (by rw[show D=b from z];exact hb)
 have loop:∀dS:Shared,dS={ s with heap:=cX } ->
   codeAny (model X.prog X.w) X.A (.compLoop (.SetComp elt [⟨tg,iter,ifs,0⟩] scope pos) 0 (.ref it) (.ref D) (compEnvC scope (C3 scope cl C) C X.env)) (RR (.ref D) C) dS:=by
  rintro dS rfl;refine RA (λn s'=>∃ (i:Nat) (ys:List Int) (bI:St) (H':Hp) (oD:Obj),Inv (d7 X pins scope N' cl C s H fp) [] bI H' s'/\tn i s'.heap/\(∀ b ∈ fp,H' b=none)/\H' D=none/\ys.length <= 60/\ye oD /\
   s'.heap.get? D=some oD/\ST.m8 X.prog X.w s'.heap D (ST.i8 [] ys)/\W i n ys bI H') ?_ m0 ⟨0,[],_,H,ST.p7 X.w,X1,qp,λb hb=>(hf b hb).1,I.bx.fresh (by omega),cQ _,(λv (z:Data.set _ _ _=_)=>by cases z),jK,ST.Du jK,w0⟩
  rintro n s3 ⟨i,ys,gx,H3,oD,I3,mR,nA,d3,z3,c3,o3,S3,w3⟩;have tq:=nZ c3 I3 d3 o3;rcases turn i n ys gx H3 w3 with⟨stop,q⟩|⟨go,hz,step⟩
  ·refine bS (T.done (d7 X pins scope N' cl C s H fp) rfl rfl rfl rfl i _ s3 _ H3 _ tq (oI nA) mR stop) λr s4 ⟨hr,I4⟩=>?_;subst hr;have o4:=(I4.pin (D,oD) (by simp)).1;have J4:Inv X pins Z H3 s4:=I.CL hf I4;have xH:w5 X pins H3 D:=by
    refine⟨d3,bH (by rw[<- eD];exact I.lt),I.sG (by omega),.inr (by have:=I.sz;omega),λx c q=>?_,λp hp=>?_⟩
    ·obtain⟨v,o,e,_⟩:=I.cell x c q;exact lr c o e
    ·exact lr _ _ (I.pin p hp).1
   obtain⟨mC,wz,_⟩:=I4.loc;exact wU D C s4 (upd H3 D (oU X D (ST.i8 [] ys))) mC (J4.Ob xH (by have:=I.sz;omega) (FE (S3.at λo e=>by rw[o3] at e;cases e;exact o4))) (q D d3) wz (by rw[f9 rL.symm];exact I4.free) (by omega)
  ·refine bS (T.item (d7 X pins scope N' cl C s H fp) rfl rfl rfl rfl i _ s3 _ H3 _ tq (oI nA) mR go) λr s4 ⟨u,hr,h4⟩=>?_;subst hr;refine bS h4 λ_ s5 aX=>?_;obtain⟨x,H5,I5,r5,y5,kZ,rY⟩:=aX;have o5:=I5.pin (D,oD) (by simp);have tm:=I5.pinned (oI rY) (T.obj _ _ kZ);refine bS (hg C s H _ s5 _ H5 x u _ tm r5 (step x H5 y5)) λ_ s6 aX=>?_;obtain⟨ke,H6,I6,q6⟩:=aX;refine bS (ht C s H _ s6 ke H6 _ I6 q6) λok s7 ⟨H7,I7,q7⟩=>?_;have back:∀{qj:St} {H8:Hp} {s8:Shared},Inv (d7 X pins scope N' cl C s H fp) ([(D,oD)]++P9 fp s5.heap) qj H8 s8->(∀b∈fp,H8 b=none)/\tn (i+1) s8.heap/\H8 D=none/\s8.heap.get? D=some oD :=
    λ{qj H8 s8} I8=>by
     have pf:∀b∈fp,∀o,s5.heap.get? b=some o->s8.heap.get? b=some o/\H8 b=none:=λb hb o e=>by
      have:=I8.pin (b,o) (bf _ (bf _ (K8 hb e)));exact⟨this.1,this.2.1⟩
     have pd:=I8.pin (D,oD) (by simp);refine⟨λb hb=>?_,T.keep _ _ _ kZ λb hb o e=>(pf b hb o e).1,pd.2.1,pd.1⟩;obtain⟨o,e,_⟩:=T.obj _ _ kZ b hb;exact(pf b hb o e).2
   cases ok with
   |false =>
    obtain⟨m',hm,w7⟩:=q7;obtain⟨b1,b2,b3,b4⟩:=back I7;exact⟨m',hm,i+1,ys,ke,H7,oD,I7.C5 λp hp=>absurd hp (by simp),b2,b1,b3,z3,c3,b4,S3.at λo e=>by rw[o3] at e;cases e;exact b4,w7⟩
   |true =>
    refine bS (he C s H _ s7 ke H7 _ I7 q7) λxv s8 aX=>?_;obtain⟨y,H8,I8,r8,kk,ey,m',hm,w8⟩:=aX;subst ey;obtain⟨tk,rfl⟩:=r8;obtain⟨b1,b2,b3,b4⟩:=back I8;have S8:ST.m8 X.prog X.w s8.heap D (ST.i8 [] ys):=S3.at λo e=>by rw[o3] at e;cases e;exact b4
    have vZ:=ST.F3 ys [];simp only[List.length_nil] at vZ;refine ST.Wy S8 (ao (by omega:_<62) (by decide)) λh' sb S9=>?_;have e9:ST.x8 (ST.i8 [] ys) kk=ST.i8 [] (ys++[kk]):=by unfold ST.i8;rw[WU];rfl
    rw[e9] at S9;obtain⟨o9,XQ,XS,t9,g9,x9,d9,r9⟩:=id S9;have c9:ye o9:=λv z=>by rw[d9] at z;cases z
    have Ah:Inv (d7 X pins scope N' cl C s H fp) [] ke H8 s8:=I8.C5 λp hp=>absurd hp (by simp);obtain⟨f0,f1,f2,f3,f4,f5⟩:=fD (H':=H8) b3;have kp:∀b o,b≠D->s8.heap.get? b=some o->h'.get? b=some o:=λb' u hb hu=>by rw[sb.2 b' hb];exact hu
    refine⟨m',hm,i+1,ys++[kk],ke,H8,o9,Ah.turned (it:=D) (t':=s8.toks+1) kp f0 f1 f3 f4 f5,T.keep _ _ _ b2 λb hb o e=>kp b o (λz=>rK (by rw[<- z];exact hb)) e,b1,b3,?_,c9,g9,S9,w8⟩;rw[bc,gM];omega
 exact Vi (loop _ rfl) (T.self _ 0 _ _ _ qp (loop _ rfl))
theorem Sq{elt tg iter:Expr}{ifs:List Expr}{scope:Scope}{N':List Str}{d6:List Nat}{cl:List (Str×Addr)}{pos:Pos}{wi:TI}{g:TG}{tc:TT}{te:TE}(S:cP X scope N' d6 cl)(hc:X.calm=true)(hi:PI X tg iter wi)(hg:∀pins C s H fp,PG (d7 X pins scope N' cl C s H fp) tg g)(ht:∀pins C s H fp,ka (d7 X pins scope N' cl C s H fp) ifs tc)(he:∀pins C s H fp,PE (d7 X pins scope N' cl C s H fp) elt te)(hs:∀x,foldedSetIterable iter X.env x=pure x):PE X (.SetComp elt [⟨tg,iter,ifs,0⟩] scope pos) (NY X wi d6 N'.length g tc te):=by
 intro pins s Z H Q I h;rw[arm_eval_SetComp];refine gJ (use:=none) rfl hs S.oP S.kind S.names (bS (hi pins s Z H _ I h) λxv bD cX=>bS cX λqS eT gT=>?_);obtain⟨it,fp,tn,J,H2,e,I2,T,jE,f2,W,⟨m0,w0⟩,turn⟩:=gT;subst e;refine QS (RR:=λacc C=>compPost (model X.prog X.w) X.A X.xe none (EP X pins Z Q) acc C) S hc (λC s H=>hg pins C s H fp) (λC s H=>ht pins C s H fp) (λC s H=>he pins C s H fp) I2 T jE f2 w0 turn ?_;intro D C s' H' m I' q hn hC hsz;exact⟨m,hn,λh' sb=>⟨.ref D,H',I'.zz hsz I2 hC sb,rfl,q⟩⟩
end
end L2

namespace HT
open PySem PyProof.Rows Builtin
theorem RK:fillsNumberSlot (.type "tuple") "mul"=pure false :=
 PySem.fillsNumberSlot_seq (id:="tuple.__mul__") (r:=some (.builtin "tuple.__rmul__")) nM.lookup (by decide +kernel) F.slot_tuple_rmul.lookup (by decide +kernel)
theorem Rn:seqRepeat? (.type "tuple")=pure (some (.builtin "tuple.__mul__")):=by
 unfold seqRepeat?;rw[XZ (T:="tuple") (name:="__mul__") (id:="tuple.__mul__") nM.lookup (by decide +kernel),XZ (T:="tuple") (name:="__rmul__") (id:="tuple.__rmul__") F.slot_tuple_rmul.lookup (by decide +kernel)]
 rfl
theorem RD(a:Int)(t:Tok)(l:Addr)(items:Array Value)(n:Nat)(dd:Option Addr)(sl:Array (Option Value)) :
  Meets (Builtin.«int.__rmul__» ⟨[.int a t,.ref l],[]⟩) (λ_ R s=>s.heap.get? l=some { cls:=.type "tuple",dict:=dd,data:=.seq items n,slots:=sl }/\R (.ok (.ret Value.notImplemented)) s) :=
 .of_wp λprog w A R s h=>by obtain⟨hp,g,d,tk,os⟩:=s;obtain⟨hl,h⟩:=h;wp_walk;exact⟨_,rfl,h⟩
theorem RH(t:Value)(c:Value):Builtin.«tuple.__mul__» ⟨[t,c],[]⟩=(do
 let n <- asIndex c
 if n < -(2 ^ 63)||n>=2 ^ 63 then
  rule "tuple.repeat.overflow";raiseError "OverflowError" s!"cannot fit '{<- typeNameOf c}' into an index-sized integer"
 let xs <- Builtin.Tuple.tupleItemsOf t
 if xs.isEmpty||n==1 then
  if <- Builtin.Tuple.tupleIsExact t then rule "tuple.repeat.same-object";return <- ret t
 if n<=0||xs.isEmpty then return <- ret (<- Builtin.Tuple.tupleExact #[])
 if xs.size*n>(2 ^ 63-1) / 8 then rule "tuple.repeat.no-memory";raiseNew (<- newExc (.type "MemoryError") [])
 if Builtin.Tuple.tupleTooMany (xs.size*n) then unsupported "tuple.__mul__:memory"
 ret (<- Builtin.Tuple.tupleExact ((List.replicate n.toNat xs).foldl (· ++ ·) #[]))):=rfl
section
variable{prog:Program}{w:World}{A:Around}{E:Value->Shared->Prop}{s:Shared}
theorem UP(aQ:List Value):∀(m:Nat) (acc:Array Value),List.foldl (λx1 x2=>x1++x2) acc (List.replicate m aQ.toArray)=acc++(List.replicate m aQ).flatten.toArray:=by
 intro m
 induction m with
 |zero=>intro acc;simp
 |succ m ih=>intro acc;rw[bK,kS,ih,bK,cy];simp
theorem UC{a:Addr}{aQ:List Value}{n:Int}{t:Tok}{Q:Value->Shared->Prop}(ht:IsTup s.heap a aQ.toArray)(dO:aQ≠[])(h1:1<=n)(h2:n<2 ^ 62)(hz:aQ.length*n.toNat<=sizeLine)(q1:n=1->Q (.ref a) s)(q2:Q (.ref s.heap.objs.size) { s with heap:=s.heap.push { cls:=.type "tuple",data:=.seq (List.replicate n.toNat aQ).flatten.toArray } }):wpAny (model prog w) A (binaryOp .Mult (.ref a) (.int n t)) Q E s:=by
 obtain⟨o,ho,hc,k,hd⟩:=id ht;obtain⟨cls,dict,data,slots⟩:=o;dsimp only at hc hd;subst hc hd;have he:aQ.toArray.isEmpty=false:=by cases aQ<;>first|exact absurd rfl dO|rfl
 refine An (T:="tuple") (U:="int") (by decide) ht.typeIs (λs'=>kP s' n t) RK F.fills_int_mul iT Rn F.slot_int_index.lookup
  (ei iT (kP s n t) F.entry_int_rmul (F.args_int_rmul_2 _ _) (RD n t a aQ.toArray k dict slots) ⟨ho,rfl,ht.typeIs,?_⟩)
 refine cb nM ht.typeIs F.entry_tuple_mul ?_ (F.args_tuple_mul_2 _ _);rw[RH];refine aa (dB (show asIndex (.int n t)=pure n from rfl) ?_);dsimp only;rw[aE (by simp only[Bool.or_eq_true,decide_eq_true_eq];omega)];refine aa (tupleItemsOf_ ht ?_);have big:¬((aQ.toArray.size:Int)*n>(2 ^ 63-1) / 8):=by
  rw[ay];have:((aQ.length*n.toNat:Nat):Int)=(aQ.length:Int)*n:=by rw[Int.natCast_mul];rw[show((n.toNat:Nat):Int)=n by omega]
  rw[<- this];have hs:sizeLine<2 ^ 59:=by decide
  omega
 have many:¬(Builtin.Tuple.tupleTooMany ((aQ.toArray.size:Int)*n)=true):=by
  unfold Builtin.Tuple.tupleTooMany;rw[ay,bP];have:((aQ.length*n.toNat:Nat):Int)=(aQ.length:Int)*n:=by rw[Int.natCast_mul];rw[show((n.toNat:Nat):Int)=n by omega]
  rw[<- this];omega
 have hsz:sizeOk (.seq (List.replicate n.toNat aQ).flatten.toArray):=by
  show(List.replicate n.toNat aQ).flatten.toArray.size<=sizeLine;simp only[List.size_toArray,List.length_flatten,List.map_replicate,List.sum_replicate_nat];rw[qb];exact hz
 by_cases e1:n=1
 ·subst e1;rw[aG (by rw[he];rfl)];unfold Builtin.Tuple.tupleIsExact;refine aa (aa (dI ht.typeIs (ah ?_)));rw[aG (by decide)]
  first
   |exact aa (fb (aa (ah ⟨_,rfl,ah (q1 rfl)⟩)))
   |exact aa (fb (ah ⟨_,rfl,(q1 rfl)⟩))
   |exact aa (fb (ah ⟨_,rfl,ah (q1 rfl)⟩))
 ·rw[aE (by rw[he];simpa using e1)];rw[aE (by rw[he];simp;omega),aE big,aE many];rw[show List.foldl (λx1 x2=>x1++x2) #[] (List.replicate n.toNat aQ.toArray)=(List.replicate n.toNat aQ).flatten.toArray by rw[UP];simp]
  first
   |exact aa (m:=Builtin.Tuple.tupleExact _) (bO (ah ⟨_,rfl,q2⟩) hsz)
   |exact aa (m:=Builtin.Tuple.tupleExact _) (bO (ah ⟨_,rfl,ah q2⟩) hsz)
end
end HT
namespace L2
open PySem PySem.Spec PyProof.Rows
section
variable{X:Cx}
def Li(K:PySem.W.Frag):R2:=λx y H Q=>∃(a:Addr) (n:Int) (xs:List V),x=.ref a/\y=.int n/\gC K H a xs/\xs≠[]/\1<=n/\n<2 ^ 62/\xs.length*n.toNat<=sizeLine /\
 (n=1->Q (.ref a) H)/\(∀p,H p=none->Q (.ref p) (upd H p (.tup (List.replicate n.toNat xs).flatten)))
theorem OZ:eI X (binaryOp .Mult) (Li X.K):=by
 intro pins s Z H x y v u Q I rx ry h;obtain⟨a,n,xs,rfl,rfl,ha,dO,h1,h2,hz,q1,q2⟩:=h;cases rx;obtain⟨tk,rfl⟩:=ry;obtain⟨aQ,r,p,_⟩:=I.tuple ha;refine HT.UC p (λz=>dO (r.L6.mp z)) h1 h2 (by rw[<- r.length];exact hz) (λe=>⟨.ref a,H,I,rfl,q1 e⟩) ?_;refine⟨.ref s.heap.objs.size,_,I.laid (t':=s.toks) (o:=.tup (List.replicate n.toNat xs).flatten) (λb ob q=>ai _ q) (ak _) ?_,rfl,q2 _ (I.bx.fresh (ak _))⟩;exact⟨by rw[len_rep,qb];exact hz,_,r.rep _,B8.new _ _⟩
def OM(sep:Str)(ys:List Str):Nat:=ys.foldl (λn y=>n+y.length+sep.length) 0
end
end L2

namespace HT
open PySem PyProof.Rows Builtin PySem.SeqAt
section
variable{prog:Program}{w:World}{A:Around}{E:Value->Shared->Prop}{s:Shared}
theorem Uc:typeLookup (.type "tuple") (dunderI "add")=pure none:=by
 show typeLookup (.type "tuple") "__iadd__"=pure none;rw[iS,eX];kernel_rfl
theorem RN{t b:Addr}{vs ws:List Value}{Q:Value->Shared->Prop}(ht:IsTup s.heap t vs.toArray)(hb:IsTup s.heap b ws.toArray)(h0:vs=[]->Q (.ref b) s)(h1:ws=[]->Q (.ref t) s)(h2:Q (.ref s.heap.objs.size) { s with heap:=s.heap.push { cls:=.type "tuple",data:=.seq (vs++ws).toArray } })(hsz:vs.length+ws.length<=sizeLine):wpAny (model prog w) A (inplaceOp .Add (.ref t) (.ref b)) Q E s:=by
 obtain⟨⟨cls,dd,data,sl⟩,ho,hc,n,hd⟩:=id ht;obtain⟨⟨su,nD,data2,jQ⟩,jH,lJ,n2,hd2⟩:=id hb;simp only at hc hd lJ hd2;subst hc hd lJ hd2;have e:vs.toArray++ws.toArray=(vs++ws).toArray:=by simp
 refine wpAny_inplaceOp_concat (T:="tuple") ⟨_,ho,rfl⟩ ⟨_,jH,rfl⟩ Uc hV kz ?_;by_cases hv:vs=[]
 ·subst hv;exact ei nN ⟨_,ho,rfl⟩ mn (kT _ _) (tuple_addW0 t b #[] ws.toArray n n2 dd nD sl jQ rfl) ⟨ho,jH,h0 rfl⟩
 by_cases hw:ws=[]
 ·exact ei nN ⟨_,ho,rfl⟩ mn (kT _ _) (tuple_addW1 t b vs.toArray ws.toArray n n2 dd nD sl jQ (by simpa using hv) (by simp[hw])) ⟨ho,jH,h1 hw⟩
 ·refine ei nN ⟨_,ho,rfl⟩ mn (kT _ _) (tuple_addW2 t b vs.toArray ws.toArray n n2 dd nD sl jQ (by simpa using hv) (by simpa using hw) (by rw[ay,ay];exact hsz)) ⟨ho,jH,?_⟩;rw[e];exact h2
end
end HT
namespace L2
open PySem PySem.Spec PyProof.Rows
section
variable{X:Cx}
def zX(K:PySem.W.Frag)(H:Hp)(a:Addr)(xs:List V):Prop :=
 H a=some (.tup xs)\/∃(o:Obj) (aQ:Array Value) (n:Nat),K.lookup a=some o/\o.cls=.type "tuple"/\o.dict=none/\o.data=.seq aQ n/\aQ.size<=sizeLine/\Vals xs aQ.toList
theorem zX.sq{K:PySem.W.Frag}{H:Hp}{a:Addr}{xs:List V}(h:zX K H a xs):gC K H a xs:=by
 rcases h with h|⟨o,aQ,n,h1,h2,_,h3,h4,h5⟩
 ·exact .inl (.inl h)
 ·exact .inr ⟨o,aQ,n,h1,h2,h3,h4,h5⟩
def Lh(K:PySem.W.Frag):V->V->Hp->VK->Prop:=λx y H Q=>(∃i j,x=.int i/\y=.int j/\Q (.int (i+j)) H) \/
 ∃a b xs ys,x=.ref a/\y=.ref b/\gC K H a xs/\gC K H b ys/\xs.length+ys.length<=sizeLine/\(xs=[]->Q (.ref b) H)/\(ys=[]->Q (.ref a) H)/\(∀p,H p=none->Q (.ref p) (upd H p (.tup (xs++ys))))
theorem OG:Cm X .Add (Lh X.K):=by
 rintro pins s Z H x y u v Q I rx ry h;rcases h with h|⟨a,b,xs,ys,rfl,rfl,ha,hb,hz,q0,q1,q2⟩
 ·exact Mh pins s Z H x y u v Q I rx ry h
 ·cases rx;cases ry;obtain⟨aQ,r1,p1,_⟩:=I.tuple ha;obtain⟨lB,r2,p2,_⟩:=I.tuple hb;refine HT.RN p1 p2 (λz=>⟨.ref b,H,I,rfl,q0 (r1.L6.mp z)⟩) (λz=>⟨.ref a,H,I,rfl,q1 (r2.L6.mp z)⟩) ?_ (by rw[<- r1.length,<- r2.length];exact hz);refine⟨.ref s.heap.objs.size,_,I.laid (t':=s.toks) (o:=.tup (xs++ys)) (λb ob q=>ai _ q) (ak _) ?_,rfl,q2 _ (I.bx.fresh (ak _))⟩;exact⟨by rw[bc];exact hz,_,r1.append r2,B8.new _ _⟩
end
end L2

namespace ST
open PySem PyProof.Rows
theorem OD{mask i p fuel:Nat}{owner:Array (Option Nat)}(h:owner.getD i (some 0)=none):SetTable.layClean.free mask owner (fuel+1) i p=some i:=by
 unfold SetTable.layClean.free;have e:SetTable.runEnd mask i+1-i=(SetTable.runEnd mask i-i)+1:=by
  unfold SetTable.runEnd;split<;>omega
 rw[e,List.range_succ_eq_map,gE];rw[Nat.add_zero,h]
 rfl
def Spot(k:Int):Prop:=0<=k/\k<8
structure Own(mask:Nat)(owner:Array (Option Nat))(pre:List Int):Prop where
 sz:owner.size=mask+1
 fwd:∀(i:Nat) (k:Int),pre[i]?=some k->owner[k.toNat]?=some (some i)
 bwd:∀(j i:Nat),owner[j]?=some (some i)->pre[i]?=some (j:Int)
theorem Q4{mask:Nat}(hm:7<=mask):∀(hs pre:List Int) (owner:Array (Option Nat)),(pre++hs).Nodup->(∀k∈pre++hs,Spot k)->Own mask owner pre ->
  ∃ iE,Own mask iE (pre ++ hs)/\hs.foldl (λacc h=>do
   let (owner,k) <- acc
   let j <- SetTable.layClean.free mask owner (SetTable.turns mask) (SetTable.bits h % (mask+1)) (SetTable.bits h)
   pure (owner.setIfInBounds j (some k),k + 1)) (some (owner,pre.length))=some (iE,(pre ++ hs).length)
 |[],pre,owner,_,_,o=>⟨owner,by simpa using o,by simp⟩
 |h::hs,pre,owner,hn,hp,o=>by
  obtain⟨h0,h8⟩:=hp h (by simp);have eb:SetTable.bits h % (mask+1)=h.toNat:=by
   unfold SetTable.bits;rw[Int.emod_eq_of_lt h0 (by omega)];exact kc (by omega)
  have dR:h.toNat<owner.size:=by rw[o.sz];omega
  have jo:owner[h.toNat]?=some none:=by
   rw[du dR];cases e:owner[h.toNat] with
   |none=>rfl
   |some i =>
    have:=o.bwd h.toNat i (by rw[du dR,e]);rw[Ar h0] at this;have hm:=aZ this;rw[dc] at hn;exact absurd rfl (hn.2.2 h hm h (by simp))
  have ef:SetTable.layClean.free mask owner (SetTable.turns mask) (SetTable.bits h % (mask+1)) (SetTable.bits h)=some h.toNat:=by
   rw[eb];exact OD (fuel:=mask+14) (by rw[Array.getD_eq_getD_getElem?,jo];rfl)
  have o':Own mask (owner.setIfInBounds h.toNat (some pre.length)) (pre++[h]):=by
   refine⟨by rw[Array.size_setIfInBounds];exact o.sz,λi k hi=>?_,λj i hj=>?_⟩
   ·rw[List.getElem?_append] at hi;split at hi
    ·have hk:=o.fwd i k hi;have HS:=hp k (by have:=aZ hi;simp[this]);have dO:h.toNat≠k.toNat:=λz=>by
      have:k=h:=by have:=HS.1;omega
      subst this;rw[dc] at hn;exact absurd rfl (hn.2.2 k (aZ hi) k (by simp))
     rw[jO dO];exact hk
    ·rename_i Ia;have:i-pre.length=0:=by
      cases e:i-pre.length with
      |zero=>rfl
      |succ n=>rw[e] at hi;simp at hi
     rw[this] at hi;cases hi;have:i=pre.length:=by omega
     subst this;rw[gZ dR]
   ·by_cases e:h.toNat=j
    ·subst e;rw[gZ dR] at hj;cases hj;rw[Ar h0];simp
    ·rw[jO e] at hj;have:=o.bwd j i hj;rw[aA (av.mp this).1];exact this
  obtain⟨iE,o2,e2⟩:=Q4 hm hs (pre++[h]) _ (by simpa using hn) (by simpa using hp) o';refine⟨iE,by simpa using o2,?_⟩;rw[kS];have e1:(do
   let (owner,k) <- some (owner,pre.length)
   let j <- SetTable.layClean.free mask owner (SetTable.turns mask) (SetTable.bits h % (mask+1)) (SetTable.bits h)
   pure (owner.setIfInBounds j (some k),k + 1):Option (Array (Option Nat) × Nat))=some (owner.setIfInBounds h.toNat (some pre.length),(pre ++ [h]).length):=by
   simp only[Option.bind_eq_bind,Option.bind_some,ef,Option.pure_def];simp
  rw[e1,e2];simp
end ST

namespace ST
open PySem PyProof.Rows
section
variable{prog:Program}{w:World}{A:Around}{E:Value->Shared->Prop}{s:Shared}{a:Addr}
def Pa(prog:Program)(w:World)(h:Heap)(a:Addr)(ks:List Int):Prop :=
 ∃o es ep t,h.get? a=some o/\o.ExactSet/\o.data=.set es ep t/\ElemsOf (intKind prog w) es.toList/\(es.toList.map λe=>toI e.2).Perm ks/\ks.Nodup/\es.size<scanBound/\t.fits es.size=true/\Well (Led w) t/\(ks=[]->7<=t.mask)
theorem m8.toV{h:Heap}{ks:List Int}(x:m8 prog w h a ks)(hn:ks≠[]):Pa prog w h a ks:=by
 obtain⟨o,es,ep,t,h1,h2,h3,h4,h5,h6,h7,h8,h9⟩:=x;exact⟨o,es,ep,t,h1,h2,h3,h4,h5,h6,h7,h8,h9,λz=>absurd z hn⟩
theorem m8.same{h:Heap}{ks us:List Int}(x:m8 prog w h a ks)(hp:ks.Perm us):m8 prog w h a us:=by
 obtain⟨o,es,ep,t,h1,h2,h3,h4,h5,h6,h7⟩:=x;exact⟨o,es,ep,t,h1,h2,h3,h4,h5.trans hp,hp.nodup_iff.mp h6,h7⟩
theorem above:∀n,n<300->7<SetTable.sizeAbove n/\n<SetTable.sizeAbove n/\SetTable.sizeAbove n<=sizeLine:=by decide +kernel
end
end ST
namespace L2
open PySem PySem.Spec PyProof.Rows
variable{X:Cx}
end L2

namespace ST
open PySem PyProof.Rows
section
variable{prog:Program}{w:World}{A:Around}{E:Value->Shared->Prop}{s:Shared}{a:Addr}{ep:Nat}{K:Type}[DecidableEq K]{knd:PySem.KeyKind prog w K}{kvs:List (K×Value)}
end
end ST
namespace L2
open PySem PySem.Spec PyProof.Rows
section
variable{X:Cx}
end
end L2

namespace L2
open PySem PySem.Spec PyProof.Rows
section
variable{X:Cx}
theorem P2{aQ:List Value}{ns:List Int}(hi:IntsAre aQ ns):∃xs,aQ.toArray=intItems xs/\ns=xs.toList.map (·.1):=by
 obtain⟨xs,e⟩:=hi.allInts.items;exact⟨xs,e,by rw[<- hi.numsOf,<- nums_intItems,<- e]⟩
theorem Tu(hc:X.calm=true):j9 X (.builtin "sum") (λxs H Q=>∃a,∃ns:List Int,xs=[.ref a]/\eQ X.K H a (ns.map V.int)/\Q (.int ns.sum) H):=by
 intro pins s Z H xs us Q I r h;obtain⟨a,ns,rfl,ha,q⟩:=h;obtain⟨u,rfl,ru⟩:=vals1 r;cases ru;obtain⟨aQ,rv,p,hz⟩:=I.list ha;obtain⟨xs,e,en⟩:=P2 (F0 rv);refine sum_intListG (xs:=xs) (I.ok.hd hc) (by rw[<- e];exact p.isList) λh' tk t' k=>⟨.int ns.sum,H,I.kept k,⟨t',?_⟩,q⟩
 rw[preSum_eq,qc (by simp),en]
theorem Tr(hc:X.calm=true):j9 X (.builtin "max") (λxs H Q=>∃a,∃(ns:List Int) (M:Int),xs=[.ref a]/\eQ X.K H a (ns.map V.int)/\M∈ns/\(∀x∈ns,x<=M)/\Q (.int M) H):=by
 intro pins s Z H xs us Q I r h;obtain⟨a,ns,M,rfl,ha,hm,hM,q⟩:=h;obtain⟨u,rfl,ru⟩:=vals1 r;cases ru;obtain⟨aQ,rv,p,hz⟩:=I.list ha;obtain⟨xs,e,en⟩:=P2 (F0 rv);have hsz:0<xs.size:=by
  have:=qf hm;rw[en,aj,bj] at this;exact this
 refine max_intList (xs:=xs) (I.ok.hd hc) (by rw[<- e];exact p.isList) hsz λv h' tk hv k=>?_;obtain⟨t,rfl⟩:=intItems_at hv;obtain⟨h1,h2⟩:=argBest_gt (numAt xs) (xs.size-1);generalize argBest (λi j=>decide (numAt xs i>numAt xs j)) (xs.size-1)=j0 at *;have m1:numAt xs j0∈ns:=by rw[en,numAt_eq];exact getD_mem (by rw[aj,bj];omega)
 have m2:M<=numAt xs j0:=by
  rw[en] at hm;obtain⟨j,hj,rfl⟩:=mem_getD hm;rw[aj,bj] at hj;rw[<- numAt_eq];exact h2 j (by omega)
 have e2:numAt xs j0=M:=Int.le_antisymm (hM _ m1) m2;exact⟨.int M,H,I.kept k,⟨t,by rw[e2]⟩,q⟩
theorem Tt(hc:X.calm=true):j9 X (.builtin "min") (λxs H Q=>∃a,∃(ns:List Int) (M:Int),xs=[.ref a]/\eQ X.K H a (ns.map V.int)/\M∈ns/\(∀x∈ns,M<=x)/\Q (.int M) H):=by
 intro pins s Z H xs us Q I r h;obtain⟨a,ns,M,rfl,ha,hm,hM,q⟩:=h;obtain⟨u,rfl,ru⟩:=vals1 r;cases ru;obtain⟨aQ,rv,p,hz⟩:=I.list ha;obtain⟨xs,e,en⟩:=P2 (F0 rv);have hsz:0<xs.size:=by
  have:=qf hm;rw[en,aj,bj] at this;exact this
 refine min_intList (xs:=xs) (I.ok.hd hc) (by rw[<- e];exact p.isList) hsz λv h' tk hv k=>?_;obtain⟨t,rfl⟩:=intItems_at hv;obtain⟨h1,h2⟩:=argBest_lt (numAt xs) (xs.size-1);generalize argBest (λi j=>decide (numAt xs i<numAt xs j)) (xs.size-1)=j0 at *;have m1:numAt xs j0∈ns:=by rw[en,numAt_eq];exact getD_mem (by rw[aj,bj];omega)
 have m2:numAt xs j0<=M:=by
  rw[en] at hm;obtain⟨j,hj,rfl⟩:=mem_getD hm;rw[aj,bj] at hj;rw[<- numAt_eq];exact h2 j (by omega)
 have e2:numAt xs j0=M:=Int.le_antisymm m2 (hM _ m1);exact⟨.int M,H,I.kept k,⟨t,by rw[e2]⟩,q⟩
theorem To(hc:X.calm=true):j9 X (.builtin "all") (λxs H Q=>∃(a:Addr) (ns:List Int),xs=[.ref a]/\eQ X.K H a (ns.map V.int)/\Q (.bl (ns.all λn=>n != 0)) H):=by
 intro pins s Z H xs us Q I r h;obtain⟨a,ns,rfl,ha,q⟩:=h;obtain⟨u,rfl,ru⟩:=vals1 r;cases ru;obtain⟨aQ,rv,p,hz⟩:=I.list ha;refine call_all_walk ?_;refine gD p.isList ?_;have dO:a≠s.heap.objs.size:=by
  obtain⟨o,e,_⟩:=id p.isList;exact aK (au e)
 have hl:=rv.length;rw[aj] at hl;refine⟨s.heap.objs.size,_,_,_,_,_,λi=>ns.getD i 1 != 0,rfl,Walks.list (A:=X.A.in1) (I.ok.hd hc) _ a dO aQ.toArray,⟨⟨_,ax _ rfl,rfl,rfl⟩,?_⟩,?_,λh' tk k=>?_⟩
 ·obtain⟨o,e,q1⟩:=id p.isList;exact⟨o,ai _ e,q1⟩
 ·intro i v s' Q' E' hP hQ;have hv:aQ[i]?=some v:=by simpa using hP
  have hi:i<ns.length:=by rw[hl];exact(av.mp hv).1
  obtain⟨u',qV,vN⟩:=rv.get (i:=i) (x:=V.int ns[i]) (by rw[aD,aq hi];rfl);rw[hv] at qV;cases qV;obtain⟨t,rfl⟩:=vN;refine truthy_int ?_;have:ns.getD i 1=ns[i]:=by simp[List.getD,hi]
  dsimp only at hQ;rw[this] at hQ;exact hQ
 ·have e1:(List.range aQ.toArray.size).all (λi=>ns.getD i 1 != 0)=ns.all λn=>n != 0:=by
   rw[ay,<- hl];rw[bp];simp only[List.all_eq_true,List.mem_range];constructor
   ·intro hh x hx;obtain⟨i,hi,rfl⟩:=dj.mp hx;have:=hh i hi;simpa[List.getD,hi] using this
   ·intro hh i hi;have:=hh ns[i] (cL hi);simpa[List.getD,hi] using this
  rw[e1];exact ⟨.bl _,H,I.kept (t':=tk) λb o e=>k b o (by
   intro hb;have:b=s.heap.objs.size:=by simpa using hb
   exact absurd (au e) (by rw [this];exact ba _)) (ai _ e),rfl,q⟩
theorem Rv:j9 X (.builtin "len") (λxs H Q=>∃a,∃ks:List Int,xs=[.ref a]/\H a=some (oU X a ks)/\Q (.int ks.length) H):=by
 intro pins s Z H xs us Q I r h;obtain⟨a,ks,rfl,ha,q⟩:=h;obtain⟨u,rfl,ru⟩:=vals1 r;cases ru;have hS:ST.m8 X.prog X.w s.heap a ks:=(I.bx a _ ha).1;obtain⟨o,es,ep,t,e,ex,ed,_,hp,nd,hz,hf,_⟩:=hS;have hl:es.size=ks.length:=by have:=hp.length_eq;simpa using this
 refine call_len_set e ex ed hf (by have:scanBound<2 ^ 62:=(by decide);omega) ⟨.int ks.length,H,I.tok _,⟨_,by rw[hl]⟩,q⟩
end
end L2

namespace L2
open PySem PySem.Spec PyProof.Rows
section
variable{X:Cx}
theorem VE{i:Int}{j:Nat}{p pos:Pos}(lH:PySem.W.kdsCode X.K X.env.code=true):PE X (.Set [.Constant (.int i) j p] 0 pos) (λZ H Q=>∀q,H q=none->Q (.ref q) (upd H q (.set (λk=>decide (k=i)) 1))):=by
 intro pins s Z H Q I h;rw[arm_eval_Set];refine aa (dq ?_);refine aa (PySem.W.kds_main I.fu lH λb=>?_);rw[PySem.W.kds_star _ (by rfl),dX];refine PySem.W.kds_core (ts:=(evalEach [Expr.Constant (.int i) j p] X.env).map λt=>do let v <- t;standAt pos;pure v) (by rfl) (by rfl) (by show 1<=30;decide) (by rw[dX];rfl) λled=>?_;refine PySem.W.kds_all pos _ _ _ ?_;show wpAny _ _ (eval (.Constant (.int i) j p) X.env) _ _ _;refine wpAny_Constant_int ?_;refine PySem.W.kds_fill_cons ?_;have IC:(s.heap.push { cls:=.type "set",dict:=none,data:=.set #[] 0 (.fresh 0 0 led) }).SetOf (intKind X.prog X.w) s.heap.objs.size (λ_=>false) 0:=(setObjOf_fresh led).setOf (ax _ rfl) (by decide);unfold setAdd;refine bT (aa ((intKind X.prog X.w).pyHash (k:=i) (fc _ _ _ _) ?_));refine wpAny_setAddHashed_of (knd:=intKind X.prog X.w) (fc _ _ _ _) rfl IC (by decide) λh' wq lK=>?_;refine PySem.W.kds_fill_nil (by rfl) ?_;have kp:∀b u,s.heap.get? b=some u->h'.get? b=some u:=λb u e=>(wq.2 b (aK (au e))).trans (ai _ e);exact⟨.ref s.heap.objs.size,_,I.laid (a:=s.heap.objs.size) (o:=.set (λk=>decide (k=i)) 1) kp (ak _) (by show Heap.SetOf _ _ _ _ _;simpa using lK),rfl,h _ (I.bx.fresh (ak _))⟩
theorem Ue:eI X (compareOp .In) (λx y H Q=>∃i a S n,x=.int i/\y=.ref a/\H a=some (.set S n)/\Q (.bl (S i)) H):=by
 intro pins s Z H x y v u Q I rx ry h;obtain⟨i,a,S,n,rfl,rfl,ha,q⟩:=h;obtain⟨t,rfl⟩:=rx;cases ry;exact wpAny_inSet_of (knd:=intKind X.prog X.w) (k:=i) (fc _ _ _ _) rfl (I.bx a _ ha) ⟨.bl (S i),H,I.tok _,rfl,q⟩
theorem Rm:eI X (compareOp .NotIn) (λx y H Q=>∃i a S n,x=.int i/\y=.ref a/\H a=some (.set S n)/\Q (.bl (!S i)) H):=by
 intro pins s Z H x y v u Q I rx ry h;obtain⟨i,a,S,n,rfl,rfl,ha,q⟩:=h;obtain⟨t,rfl⟩:=rx;cases ry;exact wpAny_notInSet_of (knd:=intKind X.prog X.w) (k:=i) (fc _ _ _ _) rfl (I.bx a _ ha) ⟨.bl (!S i),H,I.tok _,rfl,q⟩
theorem Vc:lR X "set.add" (λx xs H Q=>∃a i S n,x=.ref a/\xs=[.int i]/\H a=some (.set S n)/\n+1<4096/\Q .bw (upd H a (.set (λk=>S k||decide (k=i)) (if S i then n else n+1)))):=by
 intro pins s Z H x vs v us Q I rx rv h;obtain⟨a,i,S,n,rfl,rfl,ha,hn,q⟩:=h;cases rx;obtain⟨u,rfl,t,rfl⟩:=rv.one;refine call_set_add (knd:=intKind X.prog X.w) (k:=i) (fc _ _ _ _) rfl (I.bx a _ ha) (show n+1<scanBound from hn) λh' wq lK=>?_;obtain⟨o,es,ep,tb,ho,_⟩:=id lK;exact⟨.bw,_,I.write (x:=a) (e:=a) (o:=.set (λk=>S k||decide (k=i)) (if S i then n else n+1)) (by rw[ha];trivial) (.inl rfl) (λb u hb e=>(wq.2 b hb).trans e) ⟨o,ho⟩ lK,rfl,q⟩
def Ad(K:PySem.W.Frag)(a:Addr)(n:Nat):It :=
 ⟨λi H=>∃xs x,eQ K H a xs/\xs.length=n/\i<n/\xs[n-1-i]?=some x,λi H x H'=>H'=H/\∀xs,eQ K H a xs->xs[n-1-i]?=some x,λi H=>n<=i⟩
theorem Ta{P:Program}{w:World}{K:PySem.W.Frag}{tg:Expr}(a it:Addr)(n:Nat):Turn P w K tg (Ad K a n) [it] it (λi h=>i<=n/\h.IsRevIter it a ((n:Int)-1-(i:Nat))) where
 mem:=by simp
 obj:=λi h st b hb=>by
  have e:b=it:=by simpa using hb
  subst e;obtain⟨o,e,c,d⟩:=st.2;exact⟨o,e,λv z=>by rw[d] at z;cases z⟩
 keep:=λi h h' st k=>⟨st.1,st.2.at λo e=>k it (by simp) o e⟩
 item:=by
  intro X hP hw hK hc i pins s Z H E I hf st hg;subst hP hw hK;obtain⟨xs,x,hq,hn,hi,hx⟩:=hg;obtain⟨aQ,rv,p,hz⟩:=I.list hq;obtain⟨u,hu,ru⟩:=rv.get hx;obtain⟨f0,f1,f2,f3,f4,f5⟩:=hf it (by simp);have jE:=st.2;rw[show(n:Int)-1-(i:Nat)=((n-1-i:Nat):Int) by omega] at jE;refine wpAny_pyNext_rev_item jE p.isList (x:=u) (by simpa using hu) λh' kl sb=>?_;have I1:Inv X pins Z H { s with heap:=h' }:=I.turned (t':=s.toks) (λb o hb e=>(sb.2 b hb).trans e) f0 f1 f3 f4 f5;obtain⟨o,e,c,d⟩:=id kl;refine⟨u,rfl,uz (s:={ s with heap:=h' }) e c d (by decide) ⟨x,H,I1,ru,⟨rfl,λys hy=>by rw[I.yZ hy hq];exact hx⟩,⟨by omega,?_⟩,λb hb=>(hf b hb).1⟩⟩;rw[show(n:Int)-1-((i+1:Nat):Int)=((n-1-i:Nat):Int)-1 by omega];exact kl
 done:=by
  intro X hP hw hK hc i pins s Z H E I hf st hg;subst hP hw hK;obtain⟨f0,f1,f2,f3,f4,f5⟩:=hf it (by simp);have jE:=st.2;have:n<=i:=hg;rw[show(n:Int)-1-(i:Nat)=-1 by have:=st.1;omega] at jE;exact wpAny_pyNext_rev_end (I.ok.hd hc) jE λh' eb=>⟨rfl,I.turned (t':=s.toks) (λb o hb e=>eb b o hb e) f0 f1 f3 f4 f5⟩
 self:=λ_ _ _ _ _ st h=>wpAny_pyIter_revIter st.2 h
theorem boot_reversed:bootBuiltins "reversed"=some (.type "reversed"):=by decide +kernel
theorem Nd{tg l:Expr}{ta:TA}{p pos:Pos}(hg:Gl X "reversed")(hm:X.mg "reversed"=none)(ha:PA X [l] ta)(hs:starEach [l] X.env=[(false,eval l X.env)]) :
  PI X tg (.Call (.Name "reversed" p) [l] [] pos) (λZ H R=>ta Z H λvs H1=>∃a xs,vs=[.ref a]/\eQ X.K H1 a xs/\R (Ad X.K a xs.length) H1):=by
 intro pins s Z H R I h;refine Call_ (E8 I hg hm boot_reversed (bu (bS (ha pos pins s Z H _ I h) λus s1 aX=>?_) hs rfl));obtain⟨vs,H1,I1,r1,q1⟩:=aX;obtain⟨a,xs,e,hq,q⟩:=q1;subst e;cases r1 with
 |cons r rr =>
  cases rr;cases r;obtain⟨aQ,rv,p,hz⟩:=I1.list hq;refine call_reversed_list p.isList ?_;have hl:=rv.length;have hit:(s1.heap.push (revObj a ((aQ.toArray.size:Int)-1))).IsRevIter s1.heap.objs.size a ((xs.length:Int)-1-((0:Nat):Int)):=⟨_,ax _ rfl,rfl,by simp[revObj,hl]⟩
  refine wpAny_pyIter_revIter hit ?_;refine⟨s1.heap.objs.size,[s1.heap.objs.size],_,_,H1,rfl,I1.kept (t':=s1.toks) λb o e=>ai _ e,Ta a _ xs.length,⟨cQ _,hit⟩,λb hb=>?_,q⟩;have e:b=s1.heap.objs.size:=by simpa using hb
  subst e;exact I1.Y7 (ak _) (I1.bx.fresh (ak _))
end
end L2

namespace ST
open PySem PyProof.Rows
section
variable{prog:Program}{w:World}{A:Around}{E:Value->Shared->Prop}{s:Shared}{a:Addr}
end
end ST
namespace L2
open PySem PyProof.Rows
def Ls(ns:List Int):List Int:=ns.mergeSort (λa b=>decide (a<=b))
section
variable{X:Cx}
end
end L2

namespace M
open PySem L2
set_option genInjectivity true in
inductive D where
 |bw|bl (b:Bool)|int (i:Int)|str (x:Str)|ty (n:String)|ref (i:Nat)|tup (l:List D)
set_option genInjectivity true in
inductive O where
 |lst (l:List D)|mJ (l:List D)
 |dP (kvs:List (Key×D))
 |ins (c:Str) (fs:List (Str×D))
 |set (S:Int->Bool) (n:Nat)
def O.mut:O->Bool
 |.mJ _=>false
 |_=>true
def T8:D->Option Key
 |.int i=>some (.inl i)
 |.str x=>some (.inr x)
 |_=>none
def u9(kvs:List (Key×D))(k:Key):Option D:=(kvs.find? λkv=>decide (kv.1=k)).map (·.2)
def putD(kvs:List (Key×D))(k:Key)(v:D):List (Key×D) :=
 if(kvs.any λkv=>decide (kv.1=k))=true then kvs.map (λkv=>if kv.1=k then(kv.1,v) else kv) else kvs++[(k,v)]
def K7(f:Str)(v:D):List (Str×D)->List (Str×D)
 |[]=>[(f,v)]
 |(g,x)::r=>if g=f then(g,v)::r else(g,x)::K7 f v r
def J7:List D->Str->Option D
 |.tup [.str y,v]::r,x=>if x=y then some v else J7 r x
 |_::_,_=>none
 |[],_=>none
def O2:List D->Option Str
 |[]=>some Str.empty
 |.str x::r=>(O2 r).map λy=>x++y
 |_=>none
structure Xn where
 cls:Str
noncomputable abbrev G:=List O
noncomputable abbrev S:=List (Option D)
noncomputable abbrev KD:=D->G->Prop
noncomputable abbrev KX:=Xn->G->Prop
noncomputable abbrev iP:KX:=λ_ _=>False
def yk:Option O->Option (List D)
 |some (.lst l)=>some l
 |some (.mJ l)=>some l
 |_=>none
noncomputable abbrev d5(g:G)(a:Nat):Option (List D):=yk g[a]?
def rd(g:G):Nat->D->Option PyData
 |_,.bw=>some .none
 |_,.bl b=>some (.bool b)
 |_,.int i=>some (.int i)
 |_,.str x=>some (.str x)
 |_,.ty _=>none
 |0,.ref _=>none
 |0,.tup _=>none
 |n+1,.ref a=>match d5 g a with
  |some l=>(l.mapM (rd g n)).map .list
  |none=>none
 |n+1,.tup l=>(l.mapM (rd g n)).map .tuple
def Hg(g:G)(l:List D):Option (List PyData):=l.mapM (rd g 6)
def E9(g:G):D->Option (List D)
 |.tup l=>some l
 |.ref a=>d5 g a
 |_=>none
def U1:D->Bool
 |.bw=>true
 |_=>false
def cut{α:Type}(xs:List α)(lo hi:Option Int):List α:=(xs.drop (HT.cN xs.length 0 lo)).take (HT.cN xs.length xs.length hi-HT.cN xs.length 0 lo)
def zj(g:G)(x:D)(c:String):Option Bool:=match x with
 |.bw=>some (c=="NoneType")
 |.bl _=>some (c=="bool"||c=="int")
 |.int _=>some (c=="int")
 |.str _=>some (c=="str")
 |.tup _=>some (c=="tuple")
 |.ref a=>match g[a]? with
  |some (.lst _)=>some (c=="list")
  |_=>none
 |.ty _=>none
def j6(lo:Int)(n:Nat):List D:=(List.range n).map λ(k:Nat)=>.int (lo+k)
def O4:List D->Option Bool
 |[]=>some true
 |.bl b::r=>(O4 r).map λc=>b&&c
 |_=>none
inductive Pr where
 |bin (op:Operator)|un (op:UnaryOp)|cmp (op:CmpOp)
 |ix|je (lo hi:Bool)|rev|tup|lst|U5
 |len|list|tuple|isin|all|max|min|int|str|ik|jk|sset|Hb|sf
 |BD|rW|lN|fv|kr|fld (f:Str)
 |append|pop|get|index|join|iadd|clear|vO|extend|any|qr|sum|pO|mB|km|jR (i:Int)
noncomputable abbrev DR:=List D->G->D->G->Prop
def Rp:Operator->Int->Int->Int->Prop
 |.Add,i,j,r=>r=i+j
 |.Sub,i,j,r=>r=i-j
 |.Mult,i,j,r=>oR i j/\r=i*j
 |.FloorDiv,i,j,r=>zT i j/\r=i / j
 |.Mod,i,j,r=>0<j/\r=i % j
 |.Pow,i,j,r=>V8 i j/\r=i ^ j.toNat
 |.LShift,i,j,r=>V8 i j/\r=i*2 ^ j.toNat
 |.BitAnd,i,j,r=>r=Builtin.bitAnd i j
 |.BitOr,i,j,r=>r=Builtin.bitOr i j
 |_,_,_,_=>False
def Ph(op:Operator):DR:=λxs g d g' =>
 (∃i j r,xs=[.int i,.int j]/\Rp op i j r/\d=.int r/\g'=g) \/
 (op=.Add/\((∃ l m,xs=[.tup l,.tup m]/\l.length + m.length <= 100000/\d=.tup (l ++ m)/\g'=g) \/
  (∃a b l m,xs=[.ref a,.ref b]/\g[a]?=some (.lst l)/\g[b]?=some (.lst m)/\l.length+m.length<=100000/\d=.ref g.length/\g'=g++[.lst (l++m)]) \/
  (∃ x y,xs=[.str x,.str y]/\x.length + y.length <= 100000/\d=.str (x ++ y)/\g'=g))) \/
 (op=.Mult/\((∃ a l n,xs=[.ref a,.int n]/\g[a]?=some (.lst l)/\-(2 ^ 62) <= n/\n < 2 ^ 62/\l.length * n.toNat <= 100000/\d=.ref g.length/\g'=g ++ [.lst (List.replicate n.toNat l).flatten]) \/
  (∃ l n,xs=[.tup l,.int n]/\l ≠ []/\1 <= n/\n < 2 ^ 62/\l.length * n.toNat <= 100000/\d=.tup (List.replicate n.toNat l).flatten/\g'=g)))
def GR(op:UnaryOp):DR:=λxs g d g'=>op=.USub/\∃i,xs=[.int i]/\d=.int (-i)/\g'=g
def sd(g:G)(x y:D)(b:Bool):Prop :=
 (∃i j,x=.int i/\y=.int j/\b=decide (i=j))\/(∃i j,x=.bl i/\y=.bl j/\b=(i==j))\/(∃i j,x=.str i/\y=.str j/\b=decide (i=j)) \/
 ∃p q,rd g 6 x=some p/\rd g 6 y=some q/\p.canLay0=true/\q.canLay0=true/\b=PyData.eqv p q
def inR(g:G)(x y:D)(b:Bool):Prop :=
 (∃a kvs c,y=.ref a/\g[a]?=some (.dP kvs)/\T8 x=some c/\b=(u9 kvs c).isSome) \/
 ∃l ps p,E9 g y=some l/\Hg g l=some ps/\rd g 6 x=some p/\PyData.canLayAll0 ps=true/\p.canLay0=true/\b=(ps.any λq=>PyData.eqv q p)
def CA(g:G)(x y:D)(b:Bool):Prop:=∃a S n i,y=.ref a/\g[a]?=some (.set S n)/\x=.int i/\b=S i
def Co(g:G)(x y:D)(b:Bool):CmpOp->Prop
 |.Eq=>sd g x y b
 |.NotEq=>sd g x y (!b)
 |.In=>inR g x y b\/CA g x y b
 |.NotIn=>inR g x y (!b)\/CA g x y (!b)
 |.Lt=>∃i j,x=.int i/\y=.int j/\b=decide (i<j)
 |.LtE=>∃i j,x=.int i/\y=.int j/\b=decide (i<=j)
 |.Gt=>∃i j,x=.int i/\y=.int j/\b=decide (j<i)
 |.GtE=>∃i j,x=.int i/\y=.int j/\b=decide (j<=i)
 |.Is=>y=.bw/\b=U1 x
 |.IsNot=>y=.bw/\b=!U1 x
def Pn(op:CmpOp):DR:=λxs g d g'=>∃x y b,xs=[x,y]/\Co g x y b op/\d=.bl b/\g'=g
def CD(g:G)(x:D)(b:Bool):Prop :=
 (x=.bw/\b=false)\/x=.bl b\/(∃i,x=.int i/\b=(i != 0))\/(∃l,x=.tup l/\b=!l.isEmpty)\/∃a l,x=.ref a/\d5 g a=some l/\b=!l.isEmpty
def HA:DR:=λxs g d g'=>g'=g/\((∃x l i,xs=[x,.int i]/\E9 g x=some l/\fB l i=some d)\/(∃a kvs y c,xs=[.ref a,y]/\g[a]?=some (.dP kvs)/\T8 y=some c/\u9 kvs c=some d) \/
 ∃ x i c,xs=[.str x,.int i]/\x.length <= 100000/\fB x.cps.toList i=some c/\d=.str ⟨#[c]⟩)
def qt(x:D)(lo hi:Option Int)(g:G)(d:D)(g':G):Prop:=(∃l,x=.tup l/\d=.tup (cut l lo hi)/\g'=g)\/∃a l,x=.ref a/\d5 g a=some l/\d=.ref g.length/\g'=g++[.lst (cut l lo hi)]
def Qu:Bool->Bool->DR
 |false,false,xs,g,d,g'=>∃x,xs=[x]/\qt x none none g d g'
 |true,false,xs,g,d,g'=>∃x i,xs=[x,.int i]/\qt x (some i) none g d g'
 |false,true,xs,g,d,g'=>∃x j,xs=[x,.int j]/\qt x none (some j) g d g'
 |true,true,xs,g,d,g'=>∃x i j,xs=[x,.int i,.int j]/\qt x (some i) (some j) g d g'
def Qq:DR:=λxs g d g'=>(∃l,xs=[.tup l]/\d=.tup l.reverse/\g'=g)\/∃a l,xs=[.ref a]/\d5 g a=some l/\d=.ref g.length/\g'=g++[.lst l.reverse]
def JW:DR:=λxs g d g'=>xs.length<=1000/\d=.tup xs/\g'=g
def PQ:DR:=λxs g d g'=>xs.length<=1000/\d=.ref g.length/\g'=g++[.lst xs]
def sC:List D->List (Key×D)->Option (List (Key×D))
 |[],kvs=>some kvs
 |k::v::r,kvs=>(T8 k).bind λc=>sC r (putD kvs c v)
 |_,_=>none
def Ki:DR:=λxs g d g'=>xs=[]/\d=.ref g.length/\g'=g++[.dP []]
def PN:DR:=λxs g d g'=>g'=g/\((∃x l,xs=[x]/\E9 g x=some l/\d=.int l.length)\/(∃a kvs,xs=[.ref a]/\g[a]?=some (.dP kvs)/\d=.int kvs.length)\/∃x,xs=[.str x]/\x.length<=100000/\d=.int x.length)
def Kz:DR:=λxs g d g'=>(∃x l,xs=[x]/\E9 g x=some l/\d=.ref g.length/\g'=g++[.lst l])\/False
def Oe:DR:=λxs g d g'=>∃x l,xs=[x]/\E9 g x=some l/\d=.tup l/\g'=g
def Kr:DR:=λxs g d g'=>∃x c b,xs=[x,.ty c]/\c∈["int","bool","str","tuple","list"]/\zj g x c=some b/\d=.bl b/\g'=g
def allR:DR:=λxs g d g'=>∃a l b,xs=[.ref a]/\d5 g a=some l/\(O4 l=some b\/∃ns:List Int,l=ns.map .int/\b=ns.all λn=>n != 0)/\d=.bl b/\g'=g
def FK:List D->Option Bool
 |[]=>some false
 |.bl b::r=>(FK r).map λc=>b||c
 |_=>none
def anyR:DR:=λxs g d g'=>∃a l b,xs=[.ref a]/\d5 g a=some l/\FK l=some b/\d=.bl b/\g'=g
def NL:DR:=λxs g d g'=>False\/∃x,∃ns:List Int,xs=[x]/\E9 g x=some (ns.map .int)/\ns.length<=10000/\d=.ref g.length/\g'=g++[.lst ((Ls ns).map .int)]
def PU:DR:=λxs g d g'=>g'=g/\((∃i j,xs=[.int i,.int j]/\d=.int (if j>i then j else i))\/∃a,∃(ns:List Int) (M:Int),xs=[.ref a]/\d5 g a=some (ns.map .int)/\M∈ns/\(∀x∈ns,x<=M)/\d=.int M)
def PV:DR:=λxs g d g'=>g'=g/\((∃i j,xs=[.int i,.int j]/\d=.int (if j<i then j else i))\/∃a,∃(ns:List Int) (M:Int),xs=[.ref a]/\d5 g a=some (ns.map .int)/\M∈ns/\(∀x∈ns,M<=x)/\d=.int M)
def Ln:DR:=λxs g d g'=>∃a i S n,xs=[.ref a,.int i]/\g[a]?=some (.set S n)/\n+1<4096/\d=.bw/\g'=g.set a (.set (λk=>S k||decide (k=i)) (if S i then n else n+1))
def Nu(i:Int):DR:=λxs g d g'=>xs=[]/\d=.ref g.length/\g'=g++[.set (λk=>decide (k=i)) 1]
def Qw:DR:=λxs g d g'=>∃a,∃ns:List Int,xs=[.ref a]/\d5 g a=some (ns.map .int)/\d=.int ns.sum/\g'=g
def KA:DR:=λxs g d g'=>∃a,∃ns:List Int,xs=[.ref a]/\d5 g a=some (ns.map .int)/\ns.length<60/\d=.int (ST.i8 [] ns).length/\g'=g
def Ks:DR:=λxs g d g'=>∃i j,xs=[.int i,.int j]/\d=.int (i-j)/\g'=g
def PH:DR:=λxs g d g'=>g'=g/\((∃i,xs=[.int i]/\d=.int i)\/∃b,xs=[.bl b]/\d=.int (if b then 1 else 0))
def Qv:DR:=λxs g d g'=>(∃i,xs=[.int i]/\i.natAbs.log2<1920/\d=.str (toString i)/\g'=g)\/∃x,xs=[.str x]/\d=.str x/\g'=g
def Mw:DR:=λxs g d g'=>∃j,xs=[.int j]/\-(2 ^ 62)<=j/\j<=100000/\d=.ref g.length/\g'=g++[.lst (j6 0 j.toNat)]
def Mx:DR:=λxs g d g'=>∃i j,xs=[.int i,.int j]/\(-(2 ^ 62)<=i/\i<2 ^ 62/\-(2 ^ 62)<=j/\j<2 ^ 62/\j-i<=100000)/\d=.ref g.length/\g'=g++[.lst (j6 i (j-i).toNat)]
def Lu:DR:=λxs g d g'=>∃a ns,xs=[.ref a]/\d5 g a=some (ns.map .int)/\ns.length<60/\d=.ref g.length/\g'=g++[.lst ((A6 ns).map .int)]
def Qx:DR:=λxs g d g'=>∃ns ms:List Int,xs=[.tup (ns.map .int),.tup (ms.map .int)]/\(∀k∈ns,ST.Spot k)/\(∀k∈ms,ST.Spot k)/\ns.length+ms.length<50/\d=.ref g.length/\g'=g++[.lst ((A6 (ns++ms)).map .int)]
def Ab(neg:Bool):DR:=λxs g d g'=>∃kvs x,xs=[.tup kvs,.str x]/\d=.bl (xor neg (J7 kvs x).isSome)/\g'=g
def Km:DR:=λxs g d g'=>∃kvs x,xs=[.tup kvs,.str x]/\J7 kvs x=some d/\g'=g
def Jg:DR:=λxs g d g'=>g'=g/\((∃i,xs=[.int i]/\i.natAbs.log2<1920/\d=.str (toString i))\/∃x,xs=[.str x]/\x.length<=2000/\d=.str x)
def Kl:DR:=λxs g d g'=>∃x,O2 xs=some x/\d=.str x/\g'=g
def Pu(f:Str):DR:=λxs g d g'=>∃a c fs,xs=[.ref a]/\g[a]?=some (.ins c fs)/\fs.lookup f=some d/\g'=g
def appendR:DR:=λxs g d g'=>∃a y l,xs=[.ref a,y]/\g[a]?=some (.lst l)/\l.length<100000/\d=.bw/\g'=g.set a (.lst (l++[y]))
def Qg:DR:=λxs g d g'=>∃a i l k,xs=[.ref a,.int i]/\g[a]?=some (.lst l)/\-(2 ^ 63)<=i/\i<2 ^ 63/\seqIndex? i l.length=some k/\l[k]?=some d/\g'=g.set a (.lst (l.eraseIdx k))
def Py:DR:=λxs g d g'=>∃a y z kvs c,xs=[.ref a,y,z]/\g[a]?=some (.dP kvs)/\T8 y=some c/\d=(u9 kvs c).getD z/\g'=g
def FW:D->Bool
 |.bw=>true
 |.bl _=>true
 |.int _=>true
 |.str _=>true
 |_=>false
def toV:D->V
 |.bl b=>.bl b
 |.int i=>.int i
 |.str x=>.str x
 |_=>.bw
def LY(l:List D)(y:D)(n:Nat):Prop:=l.all FW=true/\FW y=true/\(∃z,l[n]?=some z/\BK (toV z) (toV y)=true)/\∀(m:Nat) z,m<n->l[m]?=some z->BK (toV z) (toV y)=false
def Mi:DR:=λxs g d g'=>∃x y l n,xs=[x,y]/\E9 g x=some l/\LY l y n/\l.length<=100000/\d=.int n/\g'=g
def joinR:DR:=λxs g d g'=>∃sep a ys,xs=[.str sep,.ref a]/\d5 g a=some (ys.map .str)/\OM sep ys<=100000/\d=.str (Builtin.Str.glued sep ys)/\g'=g
def Kp:DR:=λxs g d g'=>(∃i j,xs=[.int i,.int j]/\d=.int (i+j)/\g'=g)\/∃l m,xs=[.tup l,.tup m]/\l.length+m.length<=100000/\d=.tup (l++m)/\g'=g
def Mb:DR:=λxs g d g'=>∃a l,xs=[.ref a]/\g[a]?=some (.lst l)/\d=.bw/\g'=g.set a (.lst [])
def Lc:DR:=λxs g d g'=>∃a l,xs=[.ref a]/\g[a]?=some (.lst (l++[d]))/\g'=g.set a (.lst l)
def OA:DR:=λxs g d g'=>∃a b l m,xs=[.ref a,.ref b]/\g[a]?=some (.lst l)/\g[b]?=some (.lst m)/\l.length+m.length<=100000/\d=.bw/\g'=g.set a (.lst (l++m))
def Md:DR:=λxs g d g'=>∃a kvs,xs=[.ref a]/\g[a]?=some (.dP kvs)/\d=.ref g.length/\g'=g++[.dP kvs]
def PR:Pr->DR
 |.clear=>Mb
 |.any=>anyR
 |.sum=>Qw
 |.km=>Ln
 |.jR i=>Nu i
 |.pO=>KA
 |.mB=>Ks
 |.qr=>NL
 |.extend=>OA
 |.vO=>Lc
 |.sf=>Md
 |.bin op=>Ph op
 |.un op=>GR op
 |.cmp op=>Pn op
 |.ix=>HA
 |.je a b=>Qu a b
 |.rev=>Qq
 |.tup=>JW
 |.lst=>PQ
 |.U5=>Ki
 |.len=>PN
 |.list=>Kz
 |.tuple=>Oe
 |.isin=>Kr
 |.all=>allR
 |.max=>PU
 |.min=>PV
 |.int=>PH
 |.str=>Qv
 |.ik=>Mw
 |.jk=>Mx
 |.sset=>Lu
 |.Hb=>Qx
 |.BD=>Ab false
 |.rW=>Ab true
 |.lN=>Km
 |.fv=>Jg
 |.kr=>Kl
 |.fld f=>Pu f
 |.append=>appendR
 |.pop=>Qg
 |.get=>Py
 |.index=>Mi
 |.join=>joinR
 |.iadd=>Kp
def cF(p:Pr)(xs:List D)(g:G)(Q:KD):Prop:=∃d g',PR p xs g d g'/\Q d g'
def pI(g:G)(x y:D)(k:Bool->Prop):Prop:=∃b,sd g x y b/\k b
def mZ(g:G)(x y:D)(k:Bool->Prop):Prop:=∃b,inR g x y b/\k b
def oV(g:G)(x:D)(k:Bool->Prop):Prop:=∃b,CD g x b/\k b
def Qt(x y v:D)(g g':G):Prop:=(∃a i l j,x=.ref a/\y=.int i/\g[a]?=some (.lst l)/\jT l.length i=some j/\g'=g.set a (.lst (l.set j v))) \/
 ∃a kvs c,x=.ref a/\g[a]?=some (.dP kvs)/\T8 y=some c/\kvs.length<100000/\g'=g.set a (.dP (putD kvs c v))
def S1(x y v:D)(g:G)(k:G->Prop):Prop:=∃g',Qt x y v g g'/\k g'
def Gd(f:Str)(cs:List Str)(x v:D)(g g':G):Prop:=∃a c fs,x=.ref a/\g[a]?=some (.ins c fs)/\c∈cs/\fs.length<100/\g'=g.set a (.ins c (K7 f v fs))
def zJ(f:Str)(cs:List Str)(x v:D)(g:G)(k:G->Prop):Prop:=∃g',Gd f cs x v g g'/\k g'
def lz:Pr->D->G->Prop
 |.get,x,g=>∃a kvs,x=.ref a/\g[a]?=some (.dP kvs)
 |.join,x,g=>∃y,x=.str y
 |.km,x,g=>∃a S n,x=.ref a/\g[a]?=some (.set S n)
 |.index,x,g=>(∃l,x=.tup l)\/∃a l,x=.ref a/\d5 g a=some l
 |_,x,g=>∃a l,x=.ref a/\d5 g a=some l
inductive IK where
 |fix (l:List D)|lst (a:Nat)|oK (a:Nat)|tN (a n:Nat)
def IK.at:IK->Nat->G->Option (Option D)
 |.fix l,i,_=>some l[i]?
 |.lst a,i,g=>match d5 g a with
  |some l=>some l[i]?
  |none=>none
 |.oK a,i,g=>match d5 g a with
  |some l=>some (l[i]?.map λd=>.tup [.int i,d])
  |none=>none
 |.tN a n,i,g=>match d5 g a with
  |some l=>if l.length=n then some (if i<n then l[n-1-i]? else none) else none
  |none=>none
inductive MT where
 |one (i:Nat)|many (is:List Nat)
def A2:List Nat->List D->S->Option S
 |[],[],Z=>some Z
 |i::is,d::ds,Z=>A2 is ds (Z.set i (some d))
 |_,_,_=>none
def iV(t:MT)(x:D)(Z:S)(k:S->Prop):Prop:=match t with
 |.one i=>k (Z.set i (some x))
 |.many is=>∃l bI,x=.tup l/\A2 is l Z=some bI/\k bI
set_option genInjectivity false in
set_option genSizeOf false in
inductive ME where
 |var (i:Nat)|lit (d:D)
 |nil|cons (a b:ME)|prim (p:Pr) (es:ME)|dM (p:Pr) (o es:ME)|nE (es:ME)
 |chain (o1 o2:CmpOp) (a b c:ME)
 |cB (a b:ME)|jg (a b:ME)|cO (a:ME)|ite (c a b:ME)
 |call (f:Nat) (es:ME)|iB (fs:List Nat) (i:Nat) (k:Int) (es:ME)|make (c:Str) (f:Nat) (es:ME)|jj (m:Str) (cs:List (Str×Nat)) (o es:ME)
 |comp (d6:List Nat) (n:Nat) (tg:MT) (it cond elt:ME)|gn (d6:List Nat) (n:Nat) (tg:MT) (it cond elt:ME)|jf (d6:List Nat) (n:Nat) (tg:MT) (it cond elt:ME)
 |dY (e:ME)|dN (a:ME)|iG (a b:ME)|jl (e:ME)|mz (e:ME)|dU (e:ME)|no
noncomputable abbrev eG:=Nat->List D->G->KD->KX->Prop
def B9(Z:S)(d6:List Nat)(n:Nat):S:=d6.map (λj=>(Z[j]?).join)++List.replicate (n-d6.length) none
def turns(k:IK)(Z:S)(g:G)(fin:S->G->Prop)(turn:D->(S->G->Prop)->S->G->Prop):Prop :=
 ∃W:Nat->Nat->S->G->Prop,(∃m,W 0 m Z g)/\∀i m Z g,W i m Z g->(k.at i g=some none/\fin Z g)\/∃x,k.at i g=some (some x)/\∃N2:S->G->Prop,(∀bI g',N2 bI g'->∃m',m'<m/\W (i+1) m' bI g')/\turn x N2 Z g
def uR(k:IK)(Z:S)(g:G)(fin:List D->G->Prop)(turn:D->(Option D->S->G->Prop)->S->G->Prop):Prop :=
 ∃W:Nat->Nat->List D->S->G->Prop,(∃m,W 0 m [] Z g)/\∀i m ys Z g,W i m ys Z g->(k.at i g=some none/\fin ys g) \/
  ∃x,k.at i g=some (some x)/\ys.length<100000/\turn x (λy bI g'=>∃m',m'<m/\W (i+1) m' (ys++y.toList) bI g') Z g
def yz(k:IK)(Z:S)(g:G)(fin:List Int->G->Prop)(turn:D->(Option Int->S->G->Prop)->S->G->Prop):Prop :=
 ∃W:Nat->Nat->List Int->S->G->Prop,(∃m,W 0 m [] Z g)/\∀i m ys Z g,W i m ys Z g->(k.at i g=some none/\ys.length<60/\fin ys g) \/
  ∃x,k.at i g=some (some x)/\ys.length<60/\turn x (λy bI g'=>∃m',m'<m/\W (i+1) m' (ys++y.toList) bI g') Z g
mutual
noncomputable def aR(P:eG):ME->S->G->KD->KX->Prop
 |.var i,Z,g,Q,_=>∃d,Z[i]?=some (some d)/\Q d g
 |.lit d,_,g,Q,_=>Q d g
 |.prim p es,Z,g,Q,E=>eK P es Z g (λxs g1=>cF p xs g1 Q) E
 |.dM p o es,Z,g,Q,E=>aR P o Z g (λx g1=>lz p x g1/\eK P es Z g1 (λxs g2=>cF p (x::xs) g2 Q) E) E
 |.nE es,Z,g,Q,E=>eK P es Z (g++[.dP []]) (λxs g1=>∃kvs,sC xs []=some kvs/\xs.length<=30/\g1[g.length]?=some (.dP [])/\Q (.ref g.length) (g1.set g.length (.dP kvs))) E
 |.chain o1 o2 a b c,Z,g,Q,E=>aR P a Z g (λx g1=>aR P b Z g1 (λy g2=>cF (.cmp o1) [x,y] g2 λz g3=>∃t,z=.bl t/\if t=true then aR P c Z g3 (λw g4=>cF (.cmp o2) [y,w] g4 Q) E else Q (.bl false) g3) E) E
 |.cB a b,Z,g,Q,E=>aR P a Z g (λx g1=>∃t,x=.bl t/\if t=true then aR P b Z g1 Q E else Q (.bl false) g1) E
 |.jg a b,Z,g,Q,E=>aR P a Z g (λx g1=>∃t,x=.bl t/\if t=true then Q (.bl true) g1 else aR P b Z g1 Q E) E
 |.cO a,Z,g,Q,E=>aR P a Z g (λx g1=>∃t,x=.bl t/\Q (.bl (!t)) g1) E
 |.ite c a b,Z,g,Q,E=>cW P c Z g (λt g1=>if t=true then aR P a Z g1 Q E else aR P b Z g1 Q E) E
 |.call f es,Z,g,Q,E=>eK P es Z g (λxs g1=>P f xs g1 Q E) E
 |.iB fs i k es,Z,g,Q,E=>∃n f,Z[i]?=some (some (.int n))/\fB fs (n-k)=some f/\eK P es Z g (λxs g1=>P f xs g1 Q E) E
 |.make c f es,Z,g,Q,E=>eK P es Z g (λxs g1=>P f (.ref g1.length::xs) (g1++[.ins c []]) (λd g2=>d=.bw/\Q (.ref g1.length) g2) E) E
 |.jj m cs o es,Z,g,Q,E=>aR P o Z g (λx g1=>∃a c fs f,x=.ref a/\g1[a]?=some (.ins c fs)/\fs.lookup m=none/\cs.lookup c=some f/\eK P es Z g1 (λxs g2=>P f (x::xs) g2 Q E) E) E
 |.comp d6 n tg it cond elt,Z,g,Q,E=>fX P it Z g (λk g1=>uR k (B9 Z d6 n) g1 (λys g=>Q (.ref g.length) (g++[.lst ys])) λx N Z g=>iV tg x Z λbY=>cW P cond bY g (λb g3=>if b=true then aR P elt bY g3 (λy g4=>N (some y) bY g4) iP else N none bY g3) iP) E
 |.jf d6 n tg it cond elt,Z,g,Q,E=>fX P it Z g (λk g1=>uR k (B9 Z d6 n) g1 (λys g=>Q (.ref g.length) (g++[.lst ys])) λx N Z g=>iV tg x Z λbY=>cW P cond bY g (λb g3=>if b=true then aR P elt bY g3 (λy g4=>N (some y) bY g4) E else N none bY g3) iP) E
 |.gn d6 n tg it cond elt,Z,g,Q,E=>fX P it Z g (λk g1=>yz k (B9 Z d6 n) g1 (λys g=>Q (.ref g.length) (g++[.lst ((A6 ys).map .int)])) λx N Z g=>iV tg x Z λbY=>cW P cond bY g (λb g3=>if b=true then aR P elt bY g3 (λy g4=>∃j,y=.int j/\N (some j) bY g4) iP else N none bY g3) iP) E
 |.nil,_,_,_,_=>False
 |.cons _ _,_,_,_,_=>False
 |.dY _,_,_,_,_=>False
 |.dN _,_,_,_,_=>False
 |.iG _ _,_,_,_,_=>False
 |.jl _,_,_,_,_=>False
 |.mz _,_,_,_,_=>False
 |.dU _,_,_,_,_=>False
 |.no,_,_,_,_=>False
noncomputable def eK(P:eG):ME->S->G->(List D->G->Prop)->KX->Prop
 |.nil,_,g,Q,_=>Q [] g
 |.cons a b,Z,g,Q,E=>aR P a Z g (λx g1=>eK P b Z g1 (λxs g2=>Q (x::xs) g2) E) E
 |_,_,_,_,_=>False
noncomputable def cW(P:eG):ME->S->G->(Bool->G->Prop)->KX->Prop
 |.cB a b,Z,g,Q,E=>cW P a Z g (λt g1=>if t=true then cW P b Z g1 Q E else Q false g1) E
 |.jg a b,Z,g,Q,E=>cW P a Z g (λt g1=>if t=true then Q true g1 else cW P b Z g1 Q E) E
 |.cO a,Z,g,Q,E=>cW P a Z g (λt g1=>Q (!t) g1) E
 |.no,_,g,Q,_=>Q true g
 |.dU e,Z,g,Q,E=>aR P e Z g (λx g1=>oV g1 x λb=>Q b g1) E
 |_,_,_,_,_=>False
noncomputable def fX(P:eG):ME->S->G->(IK->G->Prop)->KX->Prop
 |.dY e,Z,g,R,E=>aR P e Z g (λx g1=>(∃l,x=.tup l/\R (.fix l) g1)\/∃a l,x=.ref a/\d5 g1 a=some l/\R (.lst a) g1) E
 |.dN a,Z,g,R,E=>aR P a Z g (λx g1=>∃j:Int,x=.int j/\-(2 ^ 62)<=j/\j<2 ^ 62/\R (.fix (j6 0 j.toNat)) g1) E
 |.iG a b,Z,g,R,E=>aR P a Z g (λx g1=>aR P b Z g1 (λy g2=>∃i j:Int,x=.int i/\y=.int j/\(-(2 ^ 62)<=i/\i<2 ^ 62/\-(2 ^ 62)<=j/\j<2 ^ 62)/\R (.fix (j6 i (j-i).toNat)) g2) E) E
 |.jl e,Z,g,R,E=>aR P e Z g (λx g1=>∃a l,x=.ref a/\d5 g1 a=some l/\R (.oK a) g1) E
 |.mz e,Z,g,R,E=>aR P e Z g (λx g1=>∃a l,x=.ref a/\d5 g1 a=some l/\R (.tN a l.length) g1) E
 |_,_,_,_,_=>False
end
set_option genInjectivity false in
set_option genSizeOf false in
inductive MS where
 |pass|seq (a b:MS)|expr (e:ME)|set (i:Nat) (e:ME)|jP (t:MT) (e:ME)|dz (o i v:ME)|gy (f:Str) (cs:List Str) (o v:ME)
 |sD (f:Str) (cs:List Str) (o v:ME)|jr (i:Nat) (p:Pr) (v:ME)|tL (o1 i1 o2 i2 e:ME)
 |ifs (c:ME) (a b:MS)|cH (t:MT) (it:ME) (b:MS)|jD (c:ME) (b:MS)|ret (e:ME)|nV|brk|cont
 |raise (x:Str) (es:ME)|S0 (b:MS) (hs:List (Str×ME))
structure Ends where
 nx:S->G->Prop
 rt:KD
 bk:S->G->Prop:=λ_ _=>False
 ct:S->G->Prop:=λ_ _=>False
def kf(P:eG)(N:Ends)(Z:S)(E:KX):List (Str×ME)->KX
 |[],x,g=>E x g
 |(y,e)::r,x,g=>if x.cls=y\/y="MintError" then aR P e Z g N.rt iP else kf P N Z E r x g
def wpS(P:eG):MS->Ends->S->G->KX->Prop
 |.pass,N,Z,g,_=>N.nx Z g
 |.seq a b,N,Z,g,E=>wpS P a { N with nx:=λgh g1=>wpS P b N gh g1 E } Z g E
 |.expr e,N,Z,g,E=>aR P e Z g (λ_ g1=>N.nx Z g1) E
 |.set i e,N,Z,g,E=>aR P e Z g (λx g1=>N.nx (Z.set i (some x)) g1) E
 |.jP t e,N,Z,g,E=>aR P e Z g (λx g1=>iV t x Z λgh=>N.nx gh g1) E
 |.dz o i v,N,Z,g,E=>aR P v Z g (λx g1=>aR P o Z g1 (λy g2=>aR P i Z g2 (λz g3=>S1 y z x g3 λg4=>N.nx Z g4) E) E) E
 |.gy f cs o v,N,Z,g,E=>aR P v Z g (λx g1=>aR P o Z g1 (λy g2=>zJ f cs y x g2 λg3=>N.nx Z g3) E) E
 |.sD f cs o v,N,Z,g,E=>aR P o Z g (λy g1=>∃a c fs x,y=.ref a/\g1[a]?=some (.ins c fs)/\c∈cs/\fs.lookup f=some x/\aR P v Z g1 (λz g3=>cF .iadd [x,z] g3 λw g4=>∃nz,g4[a]?=some (.ins c nz)/\nz.length<100/\N.nx Z (g4.set a (.ins c (K7 f w nz)))) E) E
 |.tL o1 i1 o2 i2 e,N,Z,g,E=>aR P e Z g (λx g1=>∃u v,x=.tup [u,v]/\aR P o1 Z g1 (λy1 g2=>aR P i1 Z g2 (λz1 g3=>S1 y1 z1 u g3 λg4=>aR P o2 Z g4 (λy2 g5=>aR P i2 Z g5 (λz2 g6=>S1 y2 z2 v g6 λg7=>N.nx Z g7) E) E) E) E) E
 |.jr i p v,N,Z,g,E=>∃x,Z[i]?=some (some x)/\aR P v Z g (λz g1=>cF p [x,z] g1 λw g2=>N.nx (Z.set i (some w)) g2) E
 |.ifs c a b,N,Z,g,E=>cW P c Z g (λt g1=>if t=true then wpS P a N Z g1 E else wpS P b N Z g1 E) E
 |.cH t it b,N,Z,g,E=>fX P it Z g (λk g1=>turns k Z g1 N.nx λx N2 Z g=>iV t x Z λbY=>wpS P b { N with nx:=N2,ct:=N2,bk:=N.nx } bY g E) E
 |.jD c b,N,Z,g,E=>∃W:Nat->S->G->Prop,(∃m,W m Z g)/\∀m Z g,W m Z g->cW P c Z g (λt g1=>if t=true then ∃N2:S->G->Prop,(∀bI g',N2 bI g'->∃m',m'<m/\W m' bI g')/\wpS P b { N with nx:=N2,ct:=N2,bk:=N.nx } Z g1 E else N.nx Z g1) E
 |.ret e,N,Z,g,E=>aR P e Z g N.rt E
 |.nV,N,_,g,_=>N.rt .bw g
 |.brk,N,Z,g,_=>N.bk Z g
 |.cont,N,Z,g,_=>N.ct Z g
 |.raise x es,_,Z,g,E=>eK P es Z g (λvs g1=>vs.length<=1000/\E ⟨x⟩ g1) E
 |.S0 b hs,N,Z,g,E=>wpS P b N Z g (kf P N (Z.map λ_=>none) E hs)
structure aN where
 ar:Nat
 n:Nat
 body:MS
def d4(m:aN)(ds:List D):S:=ds.map some++List.replicate (m.n-ds.length) none
def b9(T:Nat->Option aN):Nat->eG
 |0,_,_,_,_,_=>False
 |k+1,f,ds,g,Q,E=>∃m,T f=some m/\ds.length=m.ar/\wpS (b9 T k) m.body ⟨λ_ g'=>Q .bw g',Q,λ_ _=>False,λ_ _=>False⟩ (d4 m ds) g E
end M

namespace M
open PySem L2
theorem m6{p xs}{g:G}{Q Q':KD}(h:∀d g,Q d g->Q' d g)(q:cF p xs g Q):cF p xs g Q':=by
 obtain⟨d,g',a,b⟩:=q;exact⟨d,g',a,h _ _ b⟩
theorem UA{x}{g:G}{k k':Bool->Prop}(h:∀b,k b->k' b)(q:oV g x k):oV g x k':=by
 obtain⟨b,a,z⟩:=q;exact⟨b,a,h _ z⟩
theorem N7{x y v}{g:G}{k k':G->Prop}(h:∀g,k g->k' g)(q:S1 x y v g k):S1 x y v g k':=by
 obtain⟨b,a,z⟩:=q;exact⟨b,a,h _ z⟩
theorem Vk{f cs x v}{g:G}{k k':G->Prop}(h:∀g,k g->k' g)(q:zJ f cs x v g k):zJ f cs x v g k':=by
 obtain⟨b,a,z⟩:=q;exact⟨b,a,h _ z⟩
theorem u7{t x Z}{k k':S->Prop}(h:∀Z,k Z->k' Z)(q:iV t x Z k):iV t x Z k':=by
 cases t with
 |one i=>exact h _ q
 |many is=>obtain⟨l,bI,a,b,c⟩:=q;exact⟨l,bI,a,b,h _ c⟩
theorem Vr{k Z g}{fin jq:S->G->Prop}{turn gi:D->(S->G->Prop)->S->G->Prop}(h:∀Z g,fin Z g->jq Z g)(h2:∀x N Z g,turn x N Z g->gi x N Z g)(q:turns k Z g fin turn):turns k Z g jq gi:=by
 obtain⟨W,w0,q⟩:=q;refine⟨W,w0,λi m Z g w=>?_⟩;rcases q i m Z g w with⟨a,b⟩|⟨x,a,N2,b,c⟩
 ·exact .inl ⟨a,h _ _ b⟩
 ·exact .inr ⟨x,a,N2,b,h2 _ _ _ _ c⟩
theorem Eu{k Z g}{fin jq:List D->G->Prop}{turn gi:D->(Option D->S->G->Prop)->S->G->Prop}(h:∀ys g,fin ys g->jq ys g)(h2:∀x N Z g,turn x N Z g->gi x N Z g)(q:uR k Z g fin turn):uR k Z g jq gi:=by
 obtain⟨W,w0,q⟩:=q;refine⟨W,w0,λi m ys Z g w=>?_⟩;rcases q i m ys Z g w with⟨a,b⟩|⟨x,a,b,c⟩
 ·exact .inl ⟨a,h _ _ b⟩
 ·exact .inr ⟨x,a,b,h2 _ _ _ _ c⟩
theorem QV{k Z g}{fin jq:List Int->G->Prop}{turn gi:D->(Option Int->S->G->Prop)->S->G->Prop}(h:∀ys g,fin ys g->jq ys g)(h2:∀x N Z g,turn x N Z g->gi x N Z g)(q:yz k Z g fin turn):yz k Z g jq gi:=by
 obtain⟨W,w0,q⟩:=q;refine⟨W,w0,λi m ys Z g w=>?_⟩;rcases q i m ys Z g w with⟨a,b,c⟩|⟨x,a,b,c⟩
 ·exact .inl ⟨a,b,h _ _ c⟩
 ·exact .inr ⟨x,a,b,h2 _ _ _ _ c⟩
theorem A8{t:Bool}{A B A' B':Prop}(h1:A->A')(h2:B->B')(q:if t=true then A else B):if t=true then A' else B':=by
 cases t
 ·exact h2 q
 ·exact h1 q
def i5(P:eG):Prop:=∀f xs g Q Q' E E',(∀d g,Q d g->Q' d g)->(∀x g,E x g->E' x g)->P f xs g Q E->P f xs g Q' E'
mutual
theorem b0{P:eG}(hP:i5 P):∀(e:ME) (Z:S) (g:G) (Q Q':KD) (E E':KX),(∀d g,Q d g->Q' d g)->(∀x g,E x g->E' x g)->aR P e Z g Q E->aR P e Z g Q' E'
 |.var i,Z,g,Q,Q',E,E',h,hx,q=>by
  obtain⟨d,a,b⟩:=q;exact⟨d,a,h _ _ b⟩
 |.lit d,Z,g,Q,Q',E,E',h,hx,q=>by exact h _ _ q
 |.prim p es,Z,g,Q,Q',E,E',h,hx,q=>by
  exact n8 hP es _ _ _ _ _ _ (λxs g1 q=>m6 h q) hx q
 |.dM p o es,Z,g,Q,Q',E,E',h,hx,q=>by
  exact b0 hP o _ _ _ _ _ _ (λx g1 q=>⟨q.1,n8 hP es _ _ _ _ _ _ (λxs g2 q=>m6 h q) hx q.2⟩) hx q
 |.nE es,Z,g,Q,Q',E,E',h,hx,q=>by
  exact n8 hP es _ _ _ _ _ _ (λxs g1 ⟨kvs,a,b,c,d⟩=>⟨kvs,a,b,c,h _ _ d⟩) hx q
 |.chain o1 o2 a b c,Z,g,Q,Q',E,E',h,hx,q=>by
  refine b0 hP a _ _ _ _ _ _ (λx g1 q=>b0 hP b _ _ _ _ _ _ (λy g2 q=>m6 (λz g3 q=>?_) q) hx q) hx q;obtain⟨t,e,q⟩:=q;exact⟨t,e,A8 (λq=>b0 hP c _ _ _ _ _ _ (λw g4 q=>m6 h q) hx q) (h _ _) q⟩
 |.cB a b,Z,g,Q,Q',E,E',h,hx,q=>by
  refine b0 hP a _ _ _ _ _ _ (λx g1 q=>?_) hx q;obtain⟨t,e,q⟩:=q;exact⟨t,e,A8 (λq=>b0 hP b _ _ _ _ _ _ h hx q) (h _ _) q⟩
 |.jg a b,Z,g,Q,Q',E,E',h,hx,q=>by
  refine b0 hP a _ _ _ _ _ _ (λx g1 q=>?_) hx q;obtain⟨t,e,q⟩:=q;exact⟨t,e,A8 (h _ _) (λq=>b0 hP b _ _ _ _ _ _ h hx q) q⟩
 |.cO a,Z,g,Q,Q',E,E',h,hx,q=>by
  refine b0 hP a _ _ _ _ _ _ (λx g1 q=>?_) hx q;obtain⟨t,e,q⟩:=q;exact⟨t,e,h _ _ q⟩
 |.ite c a b,Z,g,Q,Q',E,E',h,hx,q=>by
  exact n4 hP c _ _ _ _ _ _ (λt g1 q=>A8 (λq=>b0 hP a _ _ _ _ _ _ h hx q) (λq=>b0 hP b _ _ _ _ _ _ h hx q) q) hx q
 |.call f es,Z,g,Q,Q',E,E',h,hx,q=>by
  exact n8 hP es _ _ _ _ _ _ (λxs g1 q=>hP _ _ _ _ _ _ _ h hx q) hx q
 |.iB fs i k es,Z,g,Q,Q',E,E',h,hx,q=>by
  obtain⟨n,f,h1,h2,q⟩:=q;exact⟨n,f,h1,h2,n8 hP es _ _ _ _ _ _ (λxs g1 q=>hP _ _ _ _ _ _ _ h hx q) hx q⟩
 |.make c f es,Z,g,Q,Q',E,E',h,hx,q=>by
  exact n8 hP es _ _ _ _ _ _ (λxs g1 q=>hP _ _ _ _ _ _ _ (λd g2 q=>⟨q.1,h _ _ q.2⟩) hx q) hx q
 |.jj m cs o es,Z,g,Q,Q',E,E',h,hx,q=>by
  refine b0 hP o _ _ _ _ _ _ (λx g1 q=>?_) hx q;obtain⟨a,c,fs,f,q1,q2,q3,q4,q⟩:=q;exact⟨a,c,fs,f,q1,q2,q3,q4,n8 hP es _ _ _ _ _ _ (λxs g2 q=>hP _ _ _ _ _ _ _ h hx q) hx q⟩
 |.comp d6 n tg it cond elt,Z,g,Q,Q',E,E',h,hx,q=>by
  exact w6 hP it _ _ _ _ _ _ (λk g1 q=>Eu (λys g q=>h _ _ q) (λ_ _ _ _ q=>q) q) hx q
 |.jf d6 n tg it cond elt,Z,g,Q,Q',E,E',h,hx,q=>by
  exact w6 hP it _ _ _ _ _ _ (λk g1 q=>Eu (λys g q=>h _ _ q) (λx N Z g q=>u7 (λbY q=>n4 hP cond _ _ _ _ _ _ (λb g3 q=>by
   cases b
   ·exact q
   ·exact b0 hP elt _ _ _ _ _ _ (λ_ _ z=>z) hx q) (λ_ _ z=>z) q) q) q) hx q
 |.gn d6 n tg it cond elt,Z,g,Q,Q',E,E',h,hx,q=>by
  exact w6 hP it _ _ _ _ _ _ (λk g1 q=>QV (λys g q=>h _ _ q) (λ_ _ _ _ q=>q) q) hx q
 |.nil,Z,g,Q,Q',E,E',h,hx,q=>(show False from q).elim
 |.cons _ _,Z,g,Q,Q',E,E',h,hx,q=>(show False from q).elim
 |.dY _,Z,g,Q,Q',E,E',h,hx,q=>(show False from q).elim
 |.dN _,Z,g,Q,Q',E,E',h,hx,q=>(show False from q).elim
 |.iG _ _,Z,g,Q,Q',E,E',h,hx,q=>(show False from q).elim
 |.jl _,Z,g,Q,Q',E,E',h,hx,q|.mz _,Z,g,Q,Q',E,E',h,hx,q=>(show False from q).elim
 |.dU _,Z,g,Q,Q',E,E',h,hx,q=>(show False from q).elim
 |.no,Z,g,Q,Q',E,E',h,hx,q=>(show False from q).elim
theorem n8{P:eG}(hP:i5 P):∀(e:ME) (Z:S) (g:G) (Q Q':List D->G->Prop) (E E':KX),(∀d g,Q d g->Q' d g)->(∀x g,E x g->E' x g)->eK P e Z g Q E->eK P e Z g Q' E'
 |.nil,Z,g,Q,Q',E,E',h,hx,q=>by exact h _ _ q
 |.cons a b,Z,g,Q,Q',E,E',h,hx,q=>by
  exact b0 hP a _ _ _ _ _ _ (λx g1 q=>n8 hP b _ _ _ _ _ _ (λxs g2 q=>h _ _ q) hx q) hx q
 |.var _,Z,g,Q,Q',E,E',h,hx,q|.lit _,Z,g,Q,Q',E,E',h,hx,q|.prim _ _,Z,g,Q,Q',E,E',h,hx,q|.dM _ _ _,Z,g,Q,Q',E,E',h,hx,q|.nE _,Z,g,Q,Q',E,E',h,hx,q|.chain _ _ _ _ _,Z,g,Q,Q',E,E',h,hx,q|.cB _ _,Z,g,Q,Q',E,E',h,hx,q|.jg _ _,Z,g,Q,Q',E,E',h,hx,q|.cO _,Z,g,Q,Q',E,E',h,hx,q|.ite _ _ _,Z,g,Q,Q',E,E',h,hx,q|.call _ _,Z,g,Q,Q',E,E',h,hx,q
 |.make _ _ _,Z,g,Q,Q',E,E',h,hx,q|.iB _ _ _ _,Z,g,Q,Q',E,E',h,hx,q|.jj _ _ _ _,Z,g,Q,Q',E,E',h,hx,q|.comp _ _ _ _ _ _,Z,g,Q,Q',E,E',h,hx,q|.gn _ _ _ _ _ _,Z,g,Q,Q',E,E',h,hx,q|.jf _ _ _ _ _ _,Z,g,Q,Q',E,E',h,hx,q|.dY _,Z,g,Q,Q',E,E',h,hx,q|.dN _,Z,g,Q,Q',E,E',h,hx,q|.iG _ _,Z,g,Q,Q',E,E',h,hx,q|.jl _,Z,g,Q,Q',E,E',h,hx,q|.mz _,Z,g,Q,Q',E,E',h,hx,q|.dU _,Z,g,Q,Q',E,E',h,hx,q|.no,Z,g,Q,Q',E,E',h,hx,q=>(show False from q).elim
theorem n4{P:eG}(hP:i5 P):∀(e:ME) (Z:S) (g:G) (Q Q':Bool->G->Prop) (E E':KX),(∀d g,Q d g->Q' d g)->(∀x g,E x g->E' x g)->cW P e Z g Q E->cW P e Z g Q' E'
 |.cB a b,Z,g,Q,Q',E,E',h,hx,q=>by
  exact n4 hP a _ _ _ _ _ _ (λt g1 q=>A8 (λq=>n4 hP b _ _ _ _ _ _ h hx q) (h _ _) q) hx q
 |.jg a b,Z,g,Q,Q',E,E',h,hx,q=>by
  exact n4 hP a _ _ _ _ _ _ (λt g1 q=>A8 (h _ _) (λq=>n4 hP b _ _ _ _ _ _ h hx q) q) hx q
 |.cO a,Z,g,Q,Q',E,E',h,hx,q=>by exact n4 hP a _ _ _ _ _ _ (λt g1 q=>h _ _ q) hx q
 |.no,Z,g,Q,Q',E,E',h,hx,q=>by exact h _ _ q
 |.dU e,Z,g,Q,Q',E,E',h,hx,q=>by exact b0 hP e _ _ _ _ _ _ (λx g1 q=>UA (λb q=>h _ _ q) q) hx q
 |.var _,Z,g,Q,Q',E,E',h,hx,q|.lit _,Z,g,Q,Q',E,E',h,hx,q|.prim _ _,Z,g,Q,Q',E,E',h,hx,q|.dM _ _ _,Z,g,Q,Q',E,E',h,hx,q|.nE _,Z,g,Q,Q',E,E',h,hx,q|.chain _ _ _ _ _,Z,g,Q,Q',E,E',h,hx,q|.ite _ _ _,Z,g,Q,Q',E,E',h,hx,q|.call _ _,Z,g,Q,Q',E,E',h,hx,q|.nil,Z,g,Q,Q',E,E',h,hx,q|.cons _ _,Z,g,Q,Q',E,E',h,hx,q
 |.make _ _ _,Z,g,Q,Q',E,E',h,hx,q|.iB _ _ _ _,Z,g,Q,Q',E,E',h,hx,q|.jj _ _ _ _,Z,g,Q,Q',E,E',h,hx,q|.comp _ _ _ _ _ _,Z,g,Q,Q',E,E',h,hx,q|.gn _ _ _ _ _ _,Z,g,Q,Q',E,E',h,hx,q|.jf _ _ _ _ _ _,Z,g,Q,Q',E,E',h,hx,q|.dY _,Z,g,Q,Q',E,E',h,hx,q|.dN _,Z,g,Q,Q',E,E',h,hx,q|.iG _ _,Z,g,Q,Q',E,E',h,hx,q|.jl _,Z,g,Q,Q',E,E',h,hx,q|.mz _,Z,g,Q,Q',E,E',h,hx,q=>(show False from q).elim
theorem w6{P:eG}(hP:i5 P):∀(e:ME) (Z:S) (g:G) (Q Q':IK->G->Prop) (E E':KX),(∀d g,Q d g->Q' d g)->(∀x g,E x g->E' x g)->fX P e Z g Q E->fX P e Z g Q' E'
 |.dY e,Z,g,Q,Q',E,E',h,hx,q=>by
  exact b0 hP e _ _ _ _ _ _ (λx g1 q=>q.imp (λ⟨l,a,b⟩=>⟨l,a,h _ _ b⟩) λ⟨i,l,a,b,c⟩=>⟨i,l,a,b,h _ _ c⟩) hx q
 |.dN a,Z,g,Q,Q',E,E',h,hx,q=>by
  exact b0 hP a _ _ _ _ _ _ (λx g1 ⟨j,a,b,c,d⟩=>⟨j,a,b,c,h _ _ d⟩) hx q
 |.iG a b,Z,g,Q,Q',E,E',h,hx,q=>by
  exact b0 hP a _ _ _ _ _ _ (λx g1 q=>b0 hP b _ _ _ _ _ _ (λy g2 ⟨i,j,a,b,c,d⟩=>⟨i,j,a,b,c,h _ _ d⟩) hx q) hx q
 |.jl e,Z,g,Q,Q',E,E',h,hx,q=>by
  exact b0 hP e _ _ _ _ _ _ (λx g1 ⟨i,l,a,b,c⟩=>⟨i,l,a,b,h _ _ c⟩) hx q
 |.mz e,Z,g,Q,Q',E,E',h,hx,q=>by
  exact b0 hP e _ _ _ _ _ _ (λx g1 ⟨i,l,a,b,c⟩=>⟨i,l,a,b,h _ _ c⟩) hx q
 |.var _,Z,g,Q,Q',E,E',h,hx,q|.lit _,Z,g,Q,Q',E,E',h,hx,q|.prim _ _,Z,g,Q,Q',E,E',h,hx,q|.dM _ _ _,Z,g,Q,Q',E,E',h,hx,q|.nE _,Z,g,Q,Q',E,E',h,hx,q|.chain _ _ _ _ _,Z,g,Q,Q',E,E',h,hx,q|.ite _ _ _,Z,g,Q,Q',E,E',h,hx,q|.call _ _,Z,g,Q,Q',E,E',h,hx,q|.nil,Z,g,Q,Q',E,E',h,hx,q|.cons _ _,Z,g,Q,Q',E,E',h,hx,q
 |.cB _ _,Z,g,Q,Q',E,E',h,hx,q|.jg _ _,Z,g,Q,Q',E,E',h,hx,q|.cO _,Z,g,Q,Q',E,E',h,hx,q|.dU _,Z,g,Q,Q',E,E',h,hx,q|.no,Z,g,Q,Q',E,E',h,hx,q
 |.make _ _ _,Z,g,Q,Q',E,E',h,hx,q|.iB _ _ _ _,Z,g,Q,Q',E,E',h,hx,q|.jj _ _ _ _,Z,g,Q,Q',E,E',h,hx,q|.comp _ _ _ _ _ _,Z,g,Q,Q',E,E',h,hx,q|.gn _ _ _ _ _ _,Z,g,Q,Q',E,E',h,hx,q|.jf _ _ _ _ _ _,Z,g,Q,Q',E,E',h,hx,q=>(show False from q).elim
end
structure Ends.le(N N':Ends):Prop where
 nx:∀Z g,N.nx Z g->N'.nx Z g
 rt:∀d g,N.rt d g->N'.rt d g
 bk:∀Z g,N.bk Z g->N'.bk Z g
 ct:∀Z g,N.ct Z g->N'.ct Z g
theorem Dj{P:eG}(hP:i5 P){N N':Ends}{E E':KX}(h:N.le N')(hx:∀x g,E x g->E' x g){Z:S}:∀(hs:List (Str×ME)) x g,kf P N Z E hs x g->kf P N' Z E' hs x g
 |[],x,g,q=>hx x g q
 |(y,e)::r,x,g,q=>by
  unfold kf at q ⊢;split
  ·rename_i hh;rw[aG hh] at q;exact b0 hP e _ _ _ _ _ _ h.rt (λ_ _ z=>z) q
  ·rename_i hh;rw[aE hh] at q;exact Dj hP h hx r x g q
theorem wpS_mono{P:eG}(hP:i5 P):∀(s:MS) (N N':Ends) (Z:S) (g:G) (E E':KX),N.le N'->(∀x g,E x g->E' x g)->wpS P s N Z g E->wpS P s N' Z g E'
 |.pass,N,N',Z,g,E,E',h,hx,q=>h.nx _ _ q
 |.seq a b,N,N',Z,g,E,E',h,hx,q=>wpS_mono hP a { N with nx:=λgh g1=>wpS P b N gh g1 E } { N' with nx:=λgh g1=>wpS P b N' gh g1 E' } _ _ _ _ ⟨λgh g1 q=>wpS_mono hP b _ _ _ _ _ _ h hx q,h.rt,h.bk,h.ct⟩ hx q
 |.expr e,N,N',Z,g,E,E',h,hx,q=>b0 hP e _ _ _ _ _ _ (λx g1 q=>h.nx _ _ q) hx q
 |.set i e,N,N',Z,g,E,E',h,hx,q=>b0 hP e _ _ _ _ _ _ (λx g1 q=>h.nx _ _ q) hx q
 |.jP t e,N,N',Z,g,E,E',h,hx,q=>b0 hP e _ _ _ _ _ _ (λx g1 q=>u7 (λZ q=>h.nx _ _ q) q) hx q
 |.dz o i v,N,N',Z,g,E,E',h,hx,q=>b0 hP v _ _ _ _ _ _ (λx g1 q=>b0 hP o _ _ _ _ _ _ (λy g2 q=>b0 hP i _ _ _ _ _ _ (λz g3 q=>N7 (λg q=>h.nx _ _ q) q) hx q) hx q) hx q
 |.gy f cs o v,N,N',Z,g,E,E',h,hx,q=>b0 hP v _ _ _ _ _ _ (λx g1 q=>b0 hP o _ _ _ _ _ _ (λy g2 q=>Vk (λg q=>h.nx _ _ q) q) hx q) hx q
 | .sD f cs o v,N,N',Z,g,E,E',h,hx,q=>b0 hP o _ _ _ _ _ _ (λy g1 q=>by
   obtain⟨a,c,fs,x,q1,q2,q3,q4,q⟩:=q;exact ⟨a,c,fs,x,q1,q2,q3,q4,b0 hP v _ _ _ _ _ _ (λz g3 q=>m6 (λw g4 q=>by
    obtain⟨nz,k1,k2,k3⟩:=q;exact ⟨nz,k1,k2,h.nx _ _ k3⟩) q) hx q⟩) hx q
 |.tL o1 i1 o2 i2 e,N,N',Z,g,E,E',h,hx,q=>b0 hP e _ _ _ _ _ _ (λx g1 q=>let ⟨u,v,q1,q⟩:=q;⟨u,v,q1,b0 hP o1 _ _ _ _ _ _ (λy g2 q=>b0 hP i1 _ _ _ _ _ _ (λz g3 q=>N7 (λg4 q=>b0 hP o2 _ _ _ _ _ _ (λy g5 q=>b0 hP i2 _ _ _ _ _ _ (λz g6 q=>N7 (λg q=>h.nx _ _ q) q) hx q) hx q) q) hx q) hx q⟩) hx q
 |.jr i p v,N,N',Z,g,E,E',h,hx,q=>let ⟨x,q1,q⟩:=q;⟨x,q1,b0 hP v _ _ _ _ _ _ (λz g1 q=>m6 (λw g2 q=>h.nx _ _ q) q) hx q⟩
 |.ifs c a b,N,N',Z,g,E,E',h,hx,q=>n4 hP c _ _ _ _ _ _ (λt g1 q=>A8 (λq=>wpS_mono hP a _ _ _ _ _ _ h hx q) (λq=>wpS_mono hP b _ _ _ _ _ _ h hx q) q) hx q
 |.cH t it b,N,N',Z,g,E,E',h,hx,q=>w6 hP it _ _ _ _ _ _ (λk g1 q=>Vr h.nx (λx N2 Z g q=>u7 (λbY q=>wpS_mono hP b { N with nx:=N2,ct:=N2,bk:=N.nx } { N' with nx:=N2,ct:=N2,bk:=N'.nx } _ _ _ _ ⟨λ_ _ z=>z,h.rt,h.nx,λ_ _ z=>z⟩ hx q) q) q) hx q
 |.jD c b,N,N',Z,g,E,E',h,hx,q=>by
  obtain⟨W,w0,q⟩:=q;refine⟨W,w0,λm Z g w=>n4 hP c _ _ _ _ _ _ (λt g1 q=>A8 (λq=>?_) (h.nx _ _) q) hx (q m Z g w)⟩;obtain⟨N2,a,q⟩:=q;exact⟨N2,a,wpS_mono hP b { N with nx:=N2,ct:=N2,bk:=N.nx } { N' with nx:=N2,ct:=N2,bk:=N'.nx } _ _ _ _ ⟨λ_ _ z=>z,h.rt,h.nx,λ_ _ z=>z⟩ hx q⟩
 |.ret e,N,N',Z,g,E,E',h,hx,q=>b0 hP e _ _ _ _ _ _ h.rt hx q
 |.nV,N,N',Z,g,E,E',h,hx,q=>h.rt _ _ q
 |.brk,N,N',Z,g,E,E',h,hx,q=>h.bk _ _ q
 |.cont,N,N',Z,g,E,E',h,hx,q=>h.ct _ _ q
 |.raise x es,N,N',Z,g,E,E',h,hx,q=>n8 hP es _ _ _ _ _ _ (λvs g1 q=>⟨q.1,hx _ _ q.2⟩) hx q
 |.S0 b hs,N,N',Z,g,E,E',h,hx,q=>wpS_mono hP b _ _ _ _ _ _ h (λx g q=>Dj hP h hx hs x g q) q
theorem c8(T:Nat->Option aN):∀k,i5 (b9 T k)
 |0=>λf xs g Q Q' E E' h hx q=>q.elim
 |k+1=>λf xs g Q Q' E E' h hx q=>by
  obtain⟨m,a,b,q⟩:=q;exact⟨m,a,b,wpS_mono (c8 T k) m.body ⟨λ_ g'=>Q .bw g',Q,λ_ _=>False,λ_ _=>False⟩ _ _ _ _ _ ⟨λ_ _ z=>h _ _ z,h,λ_ _ z=>z,λ_ _ z=>z⟩ hx q⟩
end M

namespace M
open PySem L2
def TupAt(K:PySem.W.Frag)(H:Hp)(a:Addr)(vs:List V):Prop :=
 H a=some (.tup vs)\/∃(o:Obj) (aQ:Array Value) (n:Nat),K.lookup a=some o/\o.cls=.type "tuple"/\o.dict=none/\o.data=.seq aQ n/\aQ.size<=sizeLine/\Vals vs aQ.toList
theorem TupAt.d{K:PySem.W.Frag}{H:Hp}{a:Addr}{vs:List V}(h:TupAt K H a vs):zX K H a vs:=h
theorem TupAt.sq{K:PySem.W.Frag}{H:Hp}{a:Addr}{vs:List V}(h:TupAt K H a vs):gC K H a vs:=h.d.sq
mutual
inductive d8(K:PySem.W.Frag)(ρ:List Addr)(H:Hp):D->V->Prop
 |bw:d8 K ρ H .bw .bw
 |bl (b:Bool):d8 K ρ H (.bl b) (.bl b)
 |int (i:Int):d8 K ρ H (.int i) (.int i)
 |str (x:Str):d8 K ρ H (.str x) (.str x)
 |ty (n:String):d8 K ρ H (.ty n) (.ty n)
 |ref {i:Nat} {a:Addr} (h:ρ[i]?=some a):d8 K ρ H (.ref i) (.ref a)
 |tup {l:List D} {a:Addr} {vs:List V} (h:TupAt K H a vs) (r:b8 K ρ H l vs):d8 K ρ H (.tup l) (.ref a)
inductive b8(K:PySem.W.Frag)(ρ:List Addr)(H:Hp):List D->List V->Prop
 |nil:b8 K ρ H [] []
 |cons {d:D} {v:V} {ds:List D} {vs:List V} (h:d8 K ρ H d v) (r:b8 K ρ H ds vs):b8 K ρ H (d::ds) (v::vs)
end
structure Ext(ρ:List Addr)(H:Hp)(bq:List Addr)(H':Hp):Prop where
 pre:∃more,bq=ρ++more
 tup:∀a xs,H a=some (.tup xs)->H' a=some (.tup xs)
theorem Ext.refl(ρ:List Addr)(H:Hp):Ext ρ H ρ H:=⟨⟨[],by simp⟩,λ_ _ h=>h⟩
theorem Ext.trans{ρ H bC H1 dH H2}(a:Ext ρ H bC H1)(b:Ext bC H1 dH H2):Ext ρ H dH H2:=by
 obtain⟨⟨m,rfl⟩,t⟩:=a;obtain⟨⟨m',rfl⟩,t'⟩:=b;exact⟨⟨m++m',by simp⟩,λx xs h=>t' _ _ (t _ _ h)⟩
theorem Ext.get{ρ H bq H'}(e:Ext ρ H bq H'){i:Nat}{a:Addr}(h:ρ[i]?=some a):bq[i]?=some a:=by
 obtain⟨⟨m,rfl⟩,_⟩:=e;rw[aA (av.mp h).1];exact h
theorem TupAt.ext{K ρ H bq H'}(e:Ext ρ H bq H'){a:Addr}{vs:List V}(h:TupAt K H a vs):TupAt K H' a vs:=h.elim (λz=>.inl (e.tup _ _ z)) .inr
mutual
theorem d8.ext{K ρ H bq H'}(e:Ext ρ H bq H'):∀{d v},d8 K ρ H d v->d8 K bq H' d v
 |_,_,.bw=>.bw
 |_,_,.bl b=>.bl b
 |_,_,.int i=>.int i
 |_,_,.str x=>.str x
 |_,_,.ty n=>.ty n
 |_,_,.ref h=>.ref (e.get h)
 |_,_,.tup h r=>.tup (h.ext e) (b8.ext e r)
theorem b8.ext{K ρ H bq H'}(e:Ext ρ H bq H'):∀{ds vs},b8 K ρ H ds vs->b8 K bq H' ds vs
 |_,_,.nil=>.nil
 |_,_,.cons h r=>.cons (d8.ext e h) (b8.ext e r)
end
theorem b8.length{K ρ H}{ds:List D}{vs:List V}(h:b8 K ρ H ds vs):ds.length=vs.length:=by
 induction ds generalizing vs with
 |nil=>cases h;rfl
 |cons d ds ih =>
  cases h with
  |cons q r=>simp[ih r]
theorem b8.get{K ρ H}:∀{ds vs} {i:Nat} {d:D},b8 K ρ H ds vs->ds[i]?=some d->∃v,vs[i]?=some v/\d8 K ρ H d v
 |_,_,_,_,.nil,h=>by simp at h
 |_,_,0,_,.cons h _,e=>by simp at e;subst e;exact⟨_,rfl,h⟩
 |_,_,i+1,d,.cons _ r,e=>by
  obtain⟨v,h1,h2⟩:=b8.get (i:=i) (d:=d) r (by simpa using e);exact⟨v,by simpa using h1,h2⟩
theorem b8.set{K ρ H}{d:D}{v:V}(h:d8 K ρ H d v):∀{ds vs} (i:Nat),b8 K ρ H ds vs->b8 K ρ H (ds.set i d) (vs.set i v)
 |_,_,_,.nil=>.nil
 |_,_,0,.cons _ r=>.cons h r
 |_,_,i+1,.cons q r=>.cons q (b8.set h i r)
theorem b8.append{K ρ H}{ds es:List D}{vs ws:List V}(h:b8 K ρ H ds vs)(s:b8 K ρ H es ws):b8 K ρ H (ds++es) (vs++ws):=by
 induction ds generalizing vs with
 |nil=>cases h;exact s
 |cons d ds ih =>
  cases h with
  |cons q r=>exact .cons q (ih r)
theorem b8.rep{K ρ H}{ds:List D}{vs:List V}(r:b8 K ρ H ds vs):∀n,b8 K ρ H (List.replicate n ds).flatten (List.replicate n vs).flatten
 |0=>.nil
 |n+1=>by
  rw[bK,bK,cy,cy];exact b8.append r (b8.rep r n)
theorem b8.erase{K ρ H}:∀{ds:List D} {vs:List V} (i:Nat),b8 K ρ H ds vs->b8 K ρ H (ds.eraseIdx i) (vs.eraseIdx i)
 |_,_,_,.nil=>.nil
 |_,_,0,.cons _ r=>r
 |_,_,i+1,.cons q r=>.cons q (b8.erase i r)
theorem b8.take{K ρ H}:∀{ds:List D} {vs:List V} (n:Nat),b8 K ρ H ds vs->b8 K ρ H (ds.take n) (vs.take n)
 |_,_,0,_=>.nil
 |_,_,_+1,.nil=>.nil
 |_,_,n+1,.cons h r=>.cons h (b8.take n r)
theorem b8.drop{K ρ H}:∀{ds:List D} {vs:List V} (n:Nat),b8 K ρ H ds vs->b8 K ρ H (ds.drop n) (vs.drop n)
 |_,_,0,r=>r
 |_,_,_+1,.nil=>.nil
 |_,_,n+1,.cons _ r=>b8.drop n r
theorem b8.reverse{K ρ H}:∀{ds:List D} {vs:List V},b8 K ρ H ds vs->b8 K ρ H ds.reverse vs.reverse
 |_,_,.nil=>.nil
 |_,_,.cons h r=>by
  rw[fE,fE];exact b8.append (b8.reverse r) (.cons h .nil)
theorem b8.cut{K ρ H}{ds:List D}{vs:List V}(r:b8 K ρ H ds vs)(lo hi:Option Int):b8 K ρ H (M.cut ds lo hi) (N1 vs lo hi):=by
 unfold M.cut N1;rw[r.length];exact(r.drop _).take _
theorem b8.ints{K ρ H}:∀{ns:List Int} {vs:List V},b8 K ρ H (ns.map D.int) vs->vs=ns.map V.int
 |[],_,.nil=>rfl
 |_::_,_,.cons h r=>by cases h;rw[b8.ints r];rfl
theorem b8.ofInts{K ρ H}:∀(ns:List Int),b8 K ρ H (ns.map D.int) (ns.map V.int)
 |[]=>.nil
 |n::r=>.cons (.int n) (b8.ofInts r)
def pS(K:PySem.W.Frag)(H:Hp)(a:Addr)(vs:List V):Prop :=
 (∃o,H a=some (.iL o (.lst vs)))\/∃(o:Obj) (aQ:Array Value) (n:Nat),K.lookup a=some o/\o.cls=.type "list"/\o.dict=none/\o.data=.seq aQ n/\aQ.size<=sizeLine/\Vals vs aQ.toList
theorem pS.sq{K:PySem.W.Frag}{H:Hp}{a:Addr}{vs:List V}(h:pS K H a vs):eQ K H a vs:=h.elim (λ⟨o,z⟩=>.inl (.inr ⟨o,z⟩)) .inr
inductive i4{α:Type}(K:PySem.W.Frag)(ρ:List Addr)(H:Hp):List (α×D)->List (α×V)->Prop
 |nil:i4 K ρ H [] []
 |cons {k:α} {d:D} {v:V} {ds:List (α×D)} {vs:List (α×V)} (h:d8 K ρ H d v) (r:i4 K ρ H ds vs):i4 K ρ H ((k,d)::ds) ((k,v)::vs)
theorem i4.ext{α:Type}{K ρ H bq H'}(e:Ext ρ H bq H'){ds:List (α×D)}{vs:List (α×V)}(h:i4 K ρ H ds vs):i4 K bq H' ds vs:=by
 induction h with
 |nil=>exact .nil
 |cons h r ih=>exact .cons (h.ext e) ih
theorem i4.length{α:Type}{K ρ H}{ds:List (α×D)}{vs:List (α×V)}(h:i4 K ρ H ds vs):ds.length=vs.length:=by
 induction h with
 |nil=>rfl
 |cons h r ih=>simp[ih]
def V7(K:PySem.W.Frag)(ρ:List Addr)(H:Hp):Option D->Option V->Prop
 |some d,some v=>d8 K ρ H d v
 |none,none=>True
 |_,_=>False
theorem i4.val{K ρ H}:∀{ds vs} (k:Key),i4 K ρ H ds vs->V7 K ρ H (u9 ds k) (E1 vs k)
 |_,_,k,.nil=>trivial
 |_,_,k,.cons (k:=k') h r=>by
  unfold u9 E1;rw[gE,gE];by_cases e:k'=k
  ·simp only[e,decide_true];exact h
  ·simp only[e,decide_false];exact i4.val k r
theorem i4.FL{K ρ H}:∀{ds vs} (k:Key),i4 K ρ H ds vs->(ds.any λkv=>decide (kv.1=k))=(vs.any λkv=>decide (kv.1=k))
 |_,_,k,.nil=>rfl
 |_,_,k,.cons h r=>by simp only[List.any_cons,i4.FL k r]
theorem i4.snoc{K ρ H}{k:Key}{d:D}{v:V}(h:d8 K ρ H d v){ds vs}(t:i4 K ρ H ds vs):i4 K ρ H (ds++[(k,d)]) (vs++[(k,v)]):=by
 induction ds generalizing vs with
 |nil=>cases t;exact .cons h .nil
 |cons d ds ih =>
  cases t with
  |cons q r=>exact .cons q (ih r)
theorem i4.yn{K ρ H}{k:Key}{d:D}{v:V}(h:d8 K ρ H d v):∀{ds vs},i4 K ρ H ds vs->i4 K ρ H (ds.map λkv=>if kv.1=k then(kv.1,d) else kv) (vs.map λkv=>if kv.1=k then(kv.1,v) else kv)
 |_,_,.nil=>.nil
 |_,_,.cons (k:=k') q r=>by
  simp only[List.map_cons];by_cases e:k'=k
  ·rw[aG e,aG e];exact .cons h (i4.yn h r)
  ·rw[aE e,aE e];exact .cons q (i4.yn h r)
theorem i4.put{K ρ H}{k:Key}{d:D}{v:V}(h:d8 K ρ H d v){ds vs}(r:i4 K ρ H ds vs):i4 K ρ H (putD ds k d) (putK vs k v):=by
 unfold putD putK;rw[r.FL k];split
 ·exact r.yn h
 ·exact r.snoc h
noncomputable abbrev m5(K:PySem.W.Frag)(x:Str)(C:Addr):Prop:=PySem.W.nsIn K mainGlobals x=some (some (.ref C))
theorem i4.look{K ρ H}{ds:List (Str×D)}{vs:List (Str×V)}(f:Str)(h:i4 K ρ H ds vs):V7 K ρ H (ds.lookup f) (vs.lookup f):=by
 induction h with
 |nil=>trivial
 |cons h r ih =>
  rename_i k d v ds vs;rw[bW,bW];cases f==k
  ·exact ih
  ·exact h
theorem i4.t4{K ρ H}{f:Str}{d:D}{v:V}(h:d8 K ρ H d v){ds:List (Str×D)}{vs:List (Str×V)}(r:i4 K ρ H ds vs):i4 K ρ H (K7 f d ds) (L2.t4 f v vs):=by
 induction r with
 |nil=>exact .cons h .nil
 |cons q r ih =>
  unfold K7 L2.t4;split
  ·exact .cons h r
  ·exact .cons q ih
theorem Ef{f:Str}{d:D}{p:Str->Prop}(hf:p f):∀{ds:List (Str×D)},(∀x∈ds,p x.1)->∀x∈K7 f d ds,p x.1
 |[],_,x,hx=>by
  have:x=(f,d):=by simpa[K7] using hx
  rw[this];exact hf
 |(k,e)::r,h,x,hx=>by
  unfold K7 at hx;split at hx
  ·rcases az.mp hx with z|z
   ·rw[z];exact h (k,e) (by simp)
   ·exact h x (by simp[z])
  ·rcases az.mp hx with z|z
   ·rw[z];exact h (k,e) (by simp)
   ·exact Ef hf (λy hy=>h y (by simp[hy])) x z
def OH(K:PySem.W.Frag)(ρ:List Addr)(H:Hp):O->HO->Prop
 |.lst l,.lst vs=>b8 K ρ H l vs
 |.dP kvs,.dK vs=>i4 K ρ H kvs vs
 |.set S n,.set S' n'=>S=S'/\n=n'
 |.ins c fs,.ins C _ vs=>m5 K c C/\iY K C/\i4 K ρ H fs vs/\∀x∈fs,u6 K C x.1
 |_,_=>False
theorem OH.ext{K ρ H bq H'}(e:Ext ρ H bq H'){o:O}{u:HO}(h:OH K ρ H o u):OH K bq H' o u:=by
 cases o<;>cases u<;>first|exact h.elim|exact b8.ext e h|exact i4.ext e h|exact⟨h.1,h.2.1,h.2.2.1.ext e,h.2.2.2⟩|exact h
theorem OH.Z8{K ρ H}{o:O}{xs:List V}(h:OH K ρ H o (.tup xs)):False:=by cases o<;>exact h
theorem OH.KN{K ρ H}{o:O}{ob:Obj}{u:HO}(h:OH K ρ H o (.iL ob u)):False:=by cases o<;>exact h
def B6(K:PySem.W.Frag)(ρ:List Addr)(H:Hp)(o:O)(a:Addr):Prop:=match o with
 |.mJ l=>∃vs,pS K H a vs/\b8 K ρ H l vs
 |o=>∃u,H a=some u/\OH K ρ H o u
theorem B6.of{K ρ H}{o:O}{a:Addr}{u:HO}(hu:H a=some u)(h:OH K ρ H o u):B6 K ρ H o a:=by
 cases o<;>first|exact⟨u,hu,h⟩|(cases u<;>exact h.elim)
theorem B6.inv{K ρ H}{o:O}{a:Addr}(m:o.mut=true)(h:B6 K ρ H o a):∃u,H a=some u/\OH K ρ H o u:=by
 cases o<;>first|exact h|cases m
theorem B6.lst{K ρ H}{l:List D}{a:Addr}(h:B6 K ρ H (.lst l) a):∃vs,H a=some (.lst vs)/\b8 K ρ H l vs:=by
 obtain⟨u,h1,h2⟩:=h;cases u<;>first|exact⟨_,h1,h2⟩|exact h2.elim
theorem B6.dP{K ρ H}{l:List (Key×D)}{a:Addr}(h:B6 K ρ H (.dP l) a):∃vs,H a=some (.dK vs)/\i4 K ρ H l vs:=by
 obtain⟨u,h1,h2⟩:=h;cases u<;>first|exact⟨_,h1,h2⟩|exact h2.elim
theorem B6.set{K ρ H}{S:Int->Bool}{n:Nat}{a:Addr}(h:B6 K ρ H (.set S n) a):H a=some (.set S n):=by
 obtain⟨u,h1,h2⟩:=h;cases u<;>first|(obtain⟨rfl,rfl⟩:=(show _/\_ from h2);exact h1)|exact h2.elim
theorem B6.ins{K ρ H}{c:Str}{fs:List (Str×D)}{a:Addr}(h:B6 K ρ H (.ins c fs) a):∃C dx vs,H a=some (.ins C dx vs)/\m5 K c C/\iY K C/\i4 K ρ H fs vs/\∀x∈fs,u6 K C x.1:=by
 obtain⟨u,h1,h2⟩:=h;cases u<;>first|exact⟨_,_,_,h1,h2⟩|exact h2.elim
structure Rl(K:PySem.W.Frag)(ρ:List Addr)(g:G)(H:Hp):Prop where
 len:ρ.length=g.length
 obj:∀(i:Nat) o a,g[i]?=some o->ρ[i]?=some a->B6 K ρ H o a
 nd:∀(i j:Nat) o o' a,g[i]?=some o->g[j]?=some o'->o.mut=true->o'.mut=true->ρ[i]?=some a->ρ[j]?=some a->i=j
section
variable{K:PySem.W.Frag}{ρ:List Addr}{g:G}{H:Hp}
theorem Rl.lst(R:Rl K ρ g H){i:Nat}{l:List D}{a:Addr}(h:g[i]?=some (.lst l))(ha:ρ[i]?=some a):∃vs,H a=some (.lst vs)/\b8 K ρ H l vs:=(R.obj _ _ _ h ha).lst
theorem Rl.dP(R:Rl K ρ g H){i:Nat}{l:List (Key×D)}{a:Addr}(h:g[i]?=some (.dP l))(ha:ρ[i]?=some a):∃vs,H a=some (.dK vs)/\i4 K ρ H l vs:=(R.obj _ _ _ h ha).dP
theorem Rl.set(R:Rl K ρ g H){i:Nat}{S:Int->Bool}{n:Nat}{a:Addr}(h:g[i]?=some (.set S n))(ha:ρ[i]?=some a):H a=some (.set S n):=(R.obj _ _ _ h ha).set
theorem Rl.ins(R:Rl K ρ g H){i:Nat}{c:Str}{fs:List (Str×D)}{a:Addr}(h:g[i]?=some (.ins c fs))(ha:ρ[i]?=some a):∃C dx vs,H a=some (.ins C dx vs)/\m5 K c C/\iY K C/\i4 K ρ H fs vs/\∀x∈fs,u6 K C x.1:=(R.obj _ _ _ h ha).ins
theorem Rl.items(R:Rl K ρ g H){i:Nat}{l:List D}{a:Addr}(h:d5 g i=some l)(ha:ρ[i]?=some a):∃vs,eQ K H a vs/\b8 K ρ H l vs:=by
 cases e:g[i]? with
 |none=>rw[d5,e] at h;cases h
 |some o =>
  rw[d5,e] at h;have q:=R.obj _ _ _ e ha;cases o with
  |lst m=>cases h;obtain⟨vs,z,r⟩:=q.lst;exact⟨vs,eQ.of z,r⟩
  |mJ m=>cases h;obtain⟨vs,z,r⟩:=q;exact⟨vs,z.sq,r⟩
  |_=>cases h
theorem n5{p:Addr}{o:HO}(hp:H p=none):Ext ρ H ρ (upd H p o):=⟨⟨[],by simp⟩,λa xs h=>by rw[f9 (j4 h hp)];exact h⟩
theorem pS.upd{p a:Addr}{o:HO}{vs:List V}(h:pS K H a vs)(hp:∀ob u,H p≠some (.iL ob u)):pS K (upd H p o) a vs:=by
 rcases h with⟨ob,z⟩|z
 ·refine .inl ⟨ob,?_⟩;rw[f9 ?_]
  ·exact z
  ·intro e;subst e;exact hp _ _ z
 ·exact .inr z
theorem B6.upd{p a:Addr}{o:O}{u:HO}{bq:List Addr}(h:B6 K ρ H o a)(dO:o.mut=true->a≠p)(hp:∀ob u,H p≠some (.iL ob u))(e:Ext ρ H bq (L2.upd H p u)):B6 K bq (L2.upd H p u) o a:=by
 cases hm:o.mut with
 |true =>
  obtain⟨u',h1,h2⟩:=h.inv hm;exact .of (by rw[f9 (dO hm)];exact h1) (h2.ext e)
 |false =>
  cases o<;>first|cases hm|skip
  obtain⟨vs,z,r⟩:=h;exact⟨vs,z.upd hp,r.ext e⟩
theorem Rl.grow{p:Addr}{o:HO}(R:Rl K ρ g H)(hp:H p=none):Rl K ρ g (upd H p o):=by
 have e:Ext ρ H ρ (upd H p o):=n5 hp;refine⟨R.len,λi ob a h1 h2=>?_,R.nd⟩;have q:=R.obj _ _ _ h1 h2;refine q.upd (λhm=>?_) (λob u z=>by rw[hp] at z;cases z) e;obtain⟨u,h1,_⟩:=q.inv hm;exact j4 h1 hp
theorem Rl.w9(R:Rl K ρ g H)(p:Addr):(ρ++[p])[g.length]?=some p:=by rw[<- R.len];simp
theorem J1{p:Addr}{o:HO}(hp:H p=none):Ext ρ H (ρ++[p]) (upd H p o):=⟨⟨[p],rfl⟩,(n5 (ρ:=ρ) hp).tup⟩
theorem Rl.new{p:Addr}{o:O}{u:HO}(R:Rl K ρ g H)(hp:H p=none)(r:OH K ρ H o u):Rl K (ρ++[p]) (g++[o]) (upd H p u):=by
 have e:Ext ρ H (ρ++[p]) (upd H p u):=J1 hp;have old:∀{i:Nat} {ob:O} {a:Addr},g[i]?=some ob->(ρ++[p])[i]?=some a->ρ[i]?=some a:=λ{i ob a} h1 h2=>by
  rw[aA (by rw[R.len];exact(av.mp h1).1)] at h2;exact h2
 have split:∀{i:Nat} {ob:O},(g++[o])[i]?=some ob->g[i]?=some ob\/(i=g.length/\ob=o):=λ{i ob} h=>by
  rcases jz i g.length with q|q|q
  ·rw[aA q] at h;exact .inl h
  ·subst q;simp at h;exact .inr ⟨rfl,h.symm⟩
  ·rw[cZ (by simp;omega)] at h;cases h
 refine⟨by simp[R.len],λi ob a h1 h2=>?_,λi j o1 o2 a h1 h2 m1 m2 h3 h4=>?_⟩
 ·rcases split h1 with q|⟨rfl,rfl⟩
  ·have z:=R.obj _ _ _ q (old q h2);refine z.upd (λhm=>?_) (λob u z=>by rw[hp] at z;cases z) e;obtain⟨u,h1,_⟩:=z.inv hm;exact j4 h1 hp
  ·rw[R.w9] at h2;cases h2;exact .of l0 (r.ext e)
 ·have nq:∀{i:Nat} {o:O} {a:Addr},g[i]?=some o->o.mut=true->ρ[i]?=some a->a≠p:=λ{i o a} h1 hm h2=>by
   obtain⟨u,z,_⟩:=(R.obj _ _ _ h1 h2).inv hm;exact j4 z hp
  rcases split h1 with q|⟨rfl,_⟩
  ·rcases split h2 with q'|⟨rfl,_⟩
   ·exact R.nd _ _ _ _ _ q q' m1 m2 (old q h3) (old q' h4)
   ·rw[R.w9] at h4;cases h4;exact absurd rfl (nq q m1 (old q h3))
  ·rcases split h2 with q'|⟨rfl,_⟩
   ·rw[R.w9] at h3;cases h3;exact absurd rfl (nq q' m2 (old q' h4))
   ·rfl
theorem Rl.alloc{p:Addr}{l:List D}{vs:List V}(R:Rl K ρ g H)(hp:H p=none)(r:b8 K ρ H l vs):Rl K (ρ++[p]) (g++[.lst l]) (upd H p (.lst vs)):=R.new hp r
theorem Rl.put{i:Nat}{a:Addr}{o o':O}{u:HO}(R:Rl K ρ g H)(h:g[i]?=some o)(hm:o.mut=true)(ha:ρ[i]?=some a)(r:OH K ρ H o' u) :
  Rl K ρ (g.set i o') (upd H a u)/\Ext ρ H ρ (upd H a u):=by
 obtain⟨u0,z0,AN⟩:=(R.obj _ _ _ h ha).inv hm;have e:Ext ρ H ρ (upd H a u):=⟨⟨[],by simp⟩,λb xs q=>by rw[f9];exact q;intro z;subst z;rw[z0] at q;cases q;exact AN.Z8⟩
 refine⟨⟨by simp[R.len],λj ob b h1 h2=>?_,λj k o1 o2 b h1 h2 m1 m2 h3 h4=>?_⟩,e⟩
 ·by_cases ir:i=j
  ·subst ir;rw[ha] at h2;cases h2;have hi:i<g.length:=(av.mp h).1;rw[aP hi] at h1;cases h1;exact .of l0 (r.ext e)
  ·rw[aB ir] at h1;refine(R.obj _ _ _ h1 h2).upd (λnh ez=>?_) (λob u z=>by rw[z0] at z;cases z;exact AN.KN) e;subst ez;exact ir (R.nd _ _ _ _ _ h h1 hm nh ha h2)
 ·have back:∀{j:Nat} {m:O},(g.set i o')[j]?=some m->m.mut=true->∃m',g[j]?=some m'/\m'.mut=true:=λ{j m} q nh=>by
   by_cases ir:i=j
   ·subst ir;exact⟨o,h,hm⟩
   ·rw[aB ir] at q;exact⟨m,q,nh⟩
  obtain⟨_,q1,n1⟩:=back h1 m1;obtain⟨_,q2,n2⟩:=back h2 m2;exact R.nd _ _ _ _ _ q1 q2 n1 n2 h3 h4
theorem Rl.write{i:Nat}{a:Addr}{l l':List D}{vs:List V}(R:Rl K ρ g H)(h:g[i]?=some (.lst l))(ha:ρ[i]?=some a)(r:b8 K ρ H l' vs) :
  Rl K ρ (g.set i (.lst l')) (upd H a (.lst vs))/\Ext ρ H ρ (upd H a (.lst vs)):=R.put h rfl ha r
end
structure k7(K:PySem.W.Frag)(ρ:List Addr)(H:Hp)(Z:S)(bA:St):Prop where
 len:Z.length=bA.length
 val:∀(i:Nat) d,Z[i]?=some (some d)->∃v,bA[i]?=some (some v)/\d8 K ρ H d v
section
variable{K:PySem.W.Frag}{ρ bq:List Addr}{H H':Hp}
theorem k7.ext{Z bA}(e:Ext ρ H bq H')(r:k7 K ρ H Z bA):k7 K bq H' Z bA:=⟨r.len,λi d h=>let ⟨v,a,b⟩:=r.val i d h;⟨v,a,b.ext e⟩⟩
theorem k7.set{Z bA d v}(r:k7 K ρ H Z bA)(i:Nat)(h:d8 K ρ H d v):k7 K ρ H (Z.set i (some d)) (bA.set i (some v)):=by
 refine⟨by simp[r.len],λj e q=>?_⟩;by_cases ir:i=j
 ·subst ir;have hi:i<Z.length:=by
   have:=(av.mp q).1;simpa using this
  rw[aP hi] at q;cases q;exact⟨v,by rw[aP (by rw[<- r.len];exact hi)],h⟩
 ·rw[aB ir] at q ⊢;exact r.val j e q
theorem k7.start{ds vs}{n:Nat}(r:b8 K ρ H ds vs):k7 K ρ H (ds.map some++List.replicate (n-ds.length) none) (vs.map some++List.replicate (n-vs.length) none):=by
 refine⟨by simp[r.length],λi d h=>?_⟩;by_cases hi:i<ds.length
 ·rw[aA (by simpa using hi),aD] at h;cases e:ds[i]? with
  |none=>rw[e] at h;cases h
  |some x =>
   rw[e] at h;cases h;obtain⟨v,h1,h2⟩:=r.get e;refine⟨v,?_,h2⟩;rw[aA (by rw[aj,<- r.length];exact hi),aD,h1]
   rfl
 ·rw[dn (by simpa using hi),cM] at h;split at h<;>cases h
theorem k7.d6{Z bA}(r:k7 K ρ H Z bA)(d6:List Nat)(n:Nat):k7 K ρ H (B9 Z d6 n) (v9 bA d6 n):=by
 refine⟨by simp[B9,v9],λi d h=>?_⟩;unfold B9 at h;unfold v9;by_cases hi:i<d6.length
 ·rw[aA (by simpa using hi),aD,aq hi] at h;rw[aA (by simpa using hi),aD,aq hi];simp only[Option.map_some] at h ⊢;cases e:Z[d6[i]]? with
  |none=>rw[e] at h;cases h
  |some x =>
   rw[e] at h;have hx:x=some d:=aF h;subst hx;obtain⟨v,h1,h2⟩:=r.val _ _ e;exact⟨v,by rw[h1];rfl,h2⟩
 ·rw[dn (by simpa using hi),cM] at h;split at h<;>cases h
end
end M

namespace M
open PySem L2 PySem.Spec PyProof.Rows
def LQ(K:PySem.W.Frag)(ρ:List Addr)(H:Hp)(Q:VK):KD:=λd g'=>∀bq H' v,Ext ρ H bq H'->Rl K bq g' H'->d8 K bq H' d v->Q v H'
theorem LQ.ext{K ρ H bC H1 Q d g}(e:Ext ρ H bC H1)(h:LQ K ρ H Q d g):LQ K bC H1 Q d g:=λbq H' v e' R r=>h bq H' v (e.trans e') R r
theorem LQ.now{K ρ H Q d g v}(h:LQ K ρ H Q d g)(R:Rl K ρ g H)(r:d8 K ρ H d v):Q v H:=h ρ H v (.refl _ _) R r
theorem LQ.new{K ρ H Q}{g:G}{l:List D}{vs:List V}{p:Addr}(h:LQ K ρ H Q (.ref g.length) (g++[.lst l]))(R:Rl K ρ g H)(hp:H p=none)(r:b8 K ρ H l vs):Q (.ref p) (upd H p (.lst vs)) :=
 h (ρ++[p]) _ _ (J1 hp) (R.alloc hp r) (.ref (R.w9 p))
theorem LQ.tup{K ρ H Q}{g:G}{l:List D}{vs:List V}{p:Addr}(h:LQ K ρ H Q (.tup l) g)(R:Rl K ρ g H)(hp:H p=none)(r:b8 K ρ H l vs):Q (.ref p) (upd H p (.tup vs)) :=
 h ρ _ _ (n5 hp) (R.grow hp) (.tup (.inl l0) (r.ext (n5 hp)))
def r2(K:PySem.W.Frag)(p:Pr):R2:=λx y H Q=>∃d e g ρ,Rl K ρ g H/\d8 K ρ H d x/\d8 K ρ H e y/\cF p [d,e] g (LQ K ρ H Q)
def r1(K:PySem.W.Frag)(p:Pr):V->Hp->VK->Prop:=λx H Q=>∃d g ρ,Rl K ρ g H/\d8 K ρ H d x/\cF p [d] g (LQ K ρ H Q)
def rN(K:PySem.W.Frag)(p:Pr):List V->Hp->VK->Prop:=λxs H Q=>∃ds g ρ,Rl K ρ g H/\b8 K ρ H ds xs/\cF p ds g (LQ K ρ H Q)
theorem j7{n:Nat}(h:n<=100000):n<=sizeLine:=aO h (by decide)
theorem yR{n:Nat}(h:n<100000):n<sizeLine:=ao h (by decide)
theorem d8.i3{K ρ H i v}(h:d8 K ρ H (.int i) v):v=.int i:=by cases h;rfl
theorem d8.A1{K ρ H i v}(h:d8 K ρ H (.str i) v):v=.str i:=by cases h;rfl
theorem d8.F2{K ρ H i v}(h:d8 K ρ H (.bl i) v):v=.bl i:=by cases h;rfl
theorem d8.uL{K ρ H v}(h:d8 K ρ H .bw v):v=.bw:=by cases h;rfl
theorem d8.LO{K ρ H n v}(h:d8 K ρ H (.ty n) v):v=.ty n:=by cases h;rfl
theorem d8.i9{K ρ H i v}(h:d8 K ρ H (.ref i) v):∃a,v=.ref a/\ρ[i]?=some a:=by cases h;exact⟨_,rfl,by assumption⟩
theorem d8.E2{K ρ H l v}(h:d8 K ρ H (.tup l) v):∃a vs,v=.ref a/\TupAt K H a vs/\b8 K ρ H l vs:=by cases h;exact⟨_,_,rfl,by assumption,by assumption⟩
theorem b8.one{K ρ H d vs}(h:b8 K ρ H [d] vs):∃v,vs=[v]/\d8 K ρ H d v:=by
 cases h with
 |cons r rr=>cases rr;exact⟨_,rfl,r⟩
theorem b8.two{K ρ H d e vs}(h:b8 K ρ H [d,e] vs):∃v w,vs=[v,w]/\d8 K ρ H d v/\d8 K ρ H e w:=by
 cases h with
 |cons r rr=>obtain⟨w,rfl,q⟩:=rr.one;exact⟨_,_,rfl,r,q⟩
theorem s9{a b c d:D}(h:[a,b]=[c,d]):a=c/\b=d:=by cases h;exact⟨rfl,rfl⟩
section
variable{X:Cx}
theorem MH(op:Operator):eI X (binaryOp op) (r2 X.K (.bin op)):=by
 intro pins s Z H x y v u Q I rx ry h;obtain⟨d,e,g,ρ,R,rd,re,d',g',h,q⟩:=h;rcases h with⟨i,j,r,ex,ha,rfl,rfl⟩|⟨rfl,h⟩|⟨rfl,h⟩
 ·obtain⟨rfl,rfl⟩:=s9 ex;obtain rfl:=rd.i3;obtain rfl:=re.i3;have fin:=q.now R (.int r);cases op<;>first|exact(show False from ha).elim|skip
  ·cases ha;exact MF pins s Z H _ _ v u Q I rx ry ⟨i,j,rfl,rfl,fin⟩
  ·cases ha;exact MP pins s Z H _ _ v u Q I rx ry ⟨i,j,rfl,rfl,fin⟩
  ·obtain⟨hc,rfl⟩:=ha;exact ML pins s Z H _ _ v u Q I rx ry ⟨i,j,rfl,rfl,hc,fin⟩
  ·obtain⟨hc,rfl⟩:=ha;exact MK pins s Z H _ _ v u Q I rx ry ⟨i,j,rfl,rfl,hc,fin⟩
  ·obtain⟨hc,rfl⟩:=ha;exact MM pins s Z H _ _ v u Q I rx ry ⟨i,j,rfl,rfl,hc,fin⟩
  ·obtain⟨hc,rfl⟩:=ha;exact MO pins s Z H _ _ v u Q I rx ry ⟨i,j,rfl,rfl,hc,fin⟩
  ·cases ha;exact KS pins s Z H _ _ v u Q I rx ry ⟨i,j,rfl,rfl,fin⟩
  ·cases ha;exact MG pins s Z H _ _ v u Q I rx ry ⟨i,j,rfl,rfl,fin⟩
  ·obtain⟨hc,rfl⟩:=ha;exact OX pins s Z H _ _ v u Q I rx ry ⟨i,j,rfl,rfl,hc,fin⟩
 ·rcases h with⟨l,m,ex,hz,rfl,rfl⟩|⟨a,b,l,m,ex,ha,hb,hz,rfl,rfl⟩|⟨x',y',ex,hz,rfl,rfl⟩
  ·obtain⟨rfl,rfl⟩:=s9 ex;obtain⟨a,vs,rfl,ta,rs⟩:=rd.E2;obtain⟨b,ws,rfl,tb,rt⟩:=re.E2;refine Sg pins s Z H _ _ v u Q I rx ry ⟨a,b,vs,ws,rfl,rfl,ta.sq,tb.sq,?_,λz=>?_,λz=>?_,λp hp=>q.tup R hp (rs.append rt)⟩
   ·rw[<- rs.length,<- rt.length];exact j7 hz
   ·subst z;cases rs;exact q.now R (.tup tb rt)
   ·subst z;cases rt;rw[gF] at q;exact q.now R (.tup ta rs)
  ·obtain⟨rfl,rfl⟩:=s9 ex;obtain⟨a',rfl,ra⟩:=rd.i9;obtain⟨b',rfl,rb⟩:=re.i9;obtain⟨vs,z1,rs⟩:=R.lst ha ra;obtain⟨ws,z2,rt⟩:=R.lst hb rb;exact MI pins s Z H _ _ v u Q I rx ry ⟨_,_,vs,ws,rfl,rfl,z1,z2,by rw[<- rs.length,<- rt.length];exact j7 hz,λp hp=>q.new R hp (rs.append rt)⟩
  ·obtain⟨rfl,rfl⟩:=s9 ex;obtain rfl:=rd.A1;obtain rfl:=re.A1;exact Ve pins s Z H _ _ v u Q I rx ry ⟨_,_,rfl,rfl,j7 hz,q.now R (.str _)⟩
 ·rcases h with⟨a,l,n,ex,ha,h1,h2,hz,rfl,rfl⟩|⟨l,n,ex,dO,h1,h2,hz,rfl,rfl⟩
  rotate_left
  ·obtain⟨rfl,rfl⟩:=s9 ex;obtain⟨a',vs,rfl,ta,rs⟩:=rd.E2;obtain rfl:=re.i3;refine OZ pins s Z H _ _ v u Q I rx ry ⟨_,_,vs,rfl,rfl,ta.sq,λz=>?_,h1,h2,by rw[<- rs.length];exact j7 hz,λz=>?_,λp hp=>q.tup R hp (rs.rep _)⟩
   ·subst z;cases rs;exact dO rfl
   ·subst z;have:(List.replicate (Int.toNat 1) l).flatten=l:=by simp
    rw[this] at q;exact q.now R (.tup ta rs)
  obtain⟨rfl,rfl⟩:=s9 ex;obtain⟨a',rfl,ra⟩:=rd.i9;obtain rfl:=re.i3;obtain⟨vs,z1,rs⟩:=R.lst ha ra;exact MN pins s Z H _ _ v u Q I rx ry ⟨_,_,vs,rfl,rfl,z1,by omega,by omega,by rw[<- rs.length];exact j7 hz,λp hp=>q.new R hp (rs.rep _)⟩
theorem KU(op:UnaryOp):vj X (unaryOp op) (r1 X.K (.un op)):=by
 intro pins s Z H x v Q I rx h;obtain⟨d,g,ρ,R,rd,d',g',⟨rfl,i,ex,rfl,rfl⟩,q⟩:=h;cases ex;obtain rfl:=rd.i3;exact Of pins s Z H _ v Q I rx ⟨_,rfl,q.now R (.int _)⟩
section
variable{ρ:List Addr}{g:G}{H:Hp}{pins:List (Addr×Obj)}{Z:L2.St}{s:Shared}
theorem Et(I:Inv X pins Z H s)(R:Rl X.K ρ g H)(n:Nat)(ih:∀{d:D} {v:V} {u:Value} {p:PyData},rd g n d=some p->d8 X.K ρ H d v->RelV v u->∃as,Reads s.heap u p as/\p.depth<=n){l:List D}:∀{vs:List V} {us:List Value} {ps:List PyData},l.mapM (rd g n)=some ps->b8 X.K ρ H l vs->Vals vs us->∃as,ReadsAll s.heap us ps as/\PyData.depthAll ps<=n:=by
 induction l with
 |nil =>
  intro vs us ps h rs rv;cases rs;cases rv;simp at h;subst h;exact⟨_,.nil,cQ _⟩
 |cons d l il =>
  intro vs us ps h rs rv;cases rs with
  |cons gp rs =>
   cases rv with
   |cons ru rv =>
    rw[mm] at h;cases e:rd g n d with
    |none=>rw[e] at h;cases h
    |some p =>
     rw[e] at h;cases e2:l.mapM (rd g n) with
     |none=>rw[e2] at h;cases h
     |some qs =>
      rw[e2] at h;cases h;obtain⟨as,q1,d1⟩:=ih e gp ru;obtain⟨bs,q2,d2⟩:=il e2 rs rv;refine⟨_,.cons q1 q2,?_⟩;simp only[PyData.depthAll];omega
theorem M5(I:Inv X pins Z H s)(R:Rl X.K ρ g H)(n:Nat):∀{d:D} {v:V} {u:Value} {p:PyData},rd g n d=some p->d8 X.K ρ H d v->RelV v u->∃as,Reads s.heap u p as/\p.depth<=n:=by
 induction n with
 |zero =>
  intro d v u p h r ru;cases r with
  |bw=>simp only[rd] at h;cases h;cases ru;exact⟨_,.none,Nat.zero_le _⟩
  |bl b=>simp only[rd] at h;cases h;cases ru;exact⟨_,.bool b,Nat.zero_le _⟩
  |int i=>simp only[rd] at h;cases h;obtain⟨t,rfl⟩:=ru;exact⟨_,.int i t,Nat.zero_le _⟩
  |str x=>simp only[rd] at h;cases h;obtain⟨t,rfl⟩:=ru;exact⟨_,.str x t,Nat.zero_le _⟩
  |_=>simp only[rd] at h;cases h
 |succ n ih =>
  intro d v u p h r ru;cases r with
  |bw=>simp only[rd] at h;cases h;cases ru;exact⟨_,.none,Nat.zero_le _⟩
  |bl b=>simp only[rd] at h;cases h;cases ru;exact⟨_,.bool b,Nat.zero_le _⟩
  |int i=>simp only[rd] at h;cases h;obtain⟨t,rfl⟩:=ru;exact⟨_,.int i t,Nat.zero_le _⟩
  |str x=>simp only[rd] at h;cases h;obtain⟨t,rfl⟩:=ru;exact⟨_,.str x t,Nat.zero_le _⟩
  |ty x=>simp only[rd] at h;cases h
  |ref ha =>
   rename_i i a;simp only[rd] at h;cases e:d5 g i with
   |none=>rw[e] at h;cases h
   |some l =>
    rw[e] at h;dsimp only at h;cases e2:l.mapM (rd g n) with
    |none=>rw[e2] at h;cases h
    |some ps =>
     rw[e2] at h;cases h;cases ru;obtain⟨vs,hq,rs⟩:=R.items e ha;obtain⟨aQ,rv,p,hz⟩:=I.list hq;obtain⟨as,q,hd⟩:=Et I R n ih e2 rs rv;obtain⟨o,ho,hc,k,ox⟩:=p.isList;refine⟨_,.list ho hc ox (by simpa using q),?_⟩;simp only[PyData.depth];omega
  |tup ht rs =>
   rename_i l a vs;simp only[rd] at h;cases e2:l.mapM (rd g n) with
   |none=>rw[e2] at h;cases h
   |some ps =>
    rw[e2] at h;cases h;cases ru;obtain⟨aQ,rv,pt,hz⟩:=I.tuple ht.sq;obtain⟨as,q,hd⟩:=Et I R n ih e2 rs rv;obtain⟨o,ho,hc,k,ox⟩:=id pt;refine⟨_,.tuple ho hc ox (by simpa using q),?_⟩;simp only[PyData.depth];omega
end
end
section
variable{X:Cx}
theorem uX{α:Type}[BEq α][LawfulBEq α][DecidableEq α](a b:α):decide (a=b)=(a==b):=by
 by_cases e:a=b
 ·subst e;simp
 ·rw[aC e];exact(cI.mpr e).symm
theorem Q5{K ρ H}{d:D}{v:V}{c:Key}(h:T8 d=some c)(r:d8 K ρ H d v):v=kV c:=by
 cases r<;>first|(cases h;rfl)|cases h
theorem V7.some{K ρ H}{o:Option V}{d:D}(h:V7 K ρ H (some d) o):∃v,o=some v/\d8 K ρ H d v:=by
 cases o with
 |none=>exact h.elim
 |some v=>exact⟨v,rfl,h⟩
theorem V7.isSome{K ρ H}{o:Option V}{d:Option D}(h:V7 K ρ H d o):d.isSome=o.isSome:=by
 cases o<;>cases d<;>first|rfl|exact h.elim
theorem FV{pins:List (Addr×Obj)}{s:Shared}{Z:L2.St}{H:Hp}{ρ:List Addr}{g:G}{d e:D}{x y:V}{v u:Value}{b:Bool}{Q:VK}(hu:X.A.units+100<cLine)(I:Inv X pins Z H s)(rx:RelV x v)(ry:RelV y u)(R:Rl X.K ρ g H)(gp:d8 X.K ρ H d x)(re:d8 X.K ρ H e y)(h:sd g d e b)(neg:Bool)(q:Q (.bl (xor neg b)) H):wpAny (model X.prog X.w) X.A (compareOp (if neg then .NotEq else .Eq) v u) (EP X pins Z Q) X.xe s:=by
 rcases h with⟨i,j,rfl,rfl,rfl⟩|⟨i,j,rfl,rfl,rfl⟩|⟨i,j,rfl,rfl,rfl⟩|⟨p,p',h1,h2,c1,c2,rfl⟩
 ·obtain rfl:=gp.i3;obtain rfl:=re.i3;cases neg
  ·exact zE pins s Z H _ _ v u Q I rx ry ⟨rfl,by rw[uY];simpa[uX] using q⟩
  ·exact zF pins s Z H _ _ v u Q I rx ry ⟨rfl,by rw[uY];simpa[uX] using q⟩
 ·obtain rfl:=gp.F2;obtain rfl:=re.F2;cases neg
  ·exact zE pins s Z H _ _ v u Q I rx ry ⟨rfl,by rw[uI];simpa using q⟩
  ·exact zF pins s Z H _ _ v u Q I rx ry ⟨rfl,by rw[uI];simpa using q⟩
 ·obtain rfl:=gp.A1;obtain rfl:=re.A1;cases neg
  ·exact zE pins s Z H _ _ v u Q I rx ry ⟨rfl,by rw[uZ];simpa[uX] using q⟩
  ·exact zF pins s Z H _ _ v u Q I rx ry ⟨rfl,by rw[uZ];simpa[uX] using q⟩
 ·obtain⟨as,q1,d1⟩:=M5 I R 6 h1 gp rx;obtain⟨bs,q2,d2⟩:=M5 I R 6 h2 re ry;have hr:X.A.units+min p.depth p'.depth<cLine:=by omega
  cases neg
  ·exact SeqAt.compareEq_reads q1 q2 c1 c2 hr ⟨.bl _,H,I,rfl,by simpa using q⟩
  ·exact SeqAt.compareNe_reads q1 q2 c1 c2 hr ⟨.bl _,H,I,rfl,by simpa using q⟩
theorem in_of{pins:List (Addr×Obj)}{s:Shared}{Z:L2.St}{H:Hp}{ρ:List Addr}{g:G}{d e:D}{x y:V}{v u:Value}{b:Bool}{Q:VK}(hu:X.A.units+100<cLine)(I:Inv X pins Z H s)(rx:RelV x v)(ry:RelV y u)(R:Rl X.K ρ g H)(gp:d8 X.K ρ H d x)(re:d8 X.K ρ H e y)(h:inR g d e b)(neg:Bool)(q:Q (.bl (xor neg b)) H):wpAny (model X.prog X.w) X.A (compareOp (if neg then .NotIn else .In) v u) (EP X pins Z Q) X.xe s:=by
 rcases h with⟨a,kvs,c,rfl,ha,hc,rfl⟩|⟨l,ps,p,h0,h1,h2,c1,c2,rfl⟩
 ·obtain⟨a',rfl,ra⟩:=re.i9;obtain⟨vs,z,rs⟩:=R.dP ha ra;have:=Q5 hc gp;subst this;cases ry;rw[(rs.val c).isSome] at q;cases neg
  ·exact Po (by omega) I (K3.k z) rx λs' I'=>⟨.bl _,H,I',rfl,by simpa using q⟩
  ·exact Oy (by omega) I (K3.k z) rx λs' I'=>⟨.bl _,H,I',rfl,by simpa using q⟩
 ·obtain⟨as,q1,d1⟩:=M5 I R 6 h2 gp rx;cases e with
  |tup m =>
   cases h0;have h3:rd g 7 (.tup l)=some (.tuple ps):=by simp only[rd];rw[show l.mapM (rd g 6)=some ps from h1];rfl
   obtain⟨bs,q2,d2⟩:=M5 I R 7 h3 re ry;have hr:X.A.units+1+min (PyData.depthAll ps) p.depth<cLine:=by omega
   cases neg
   ·exact SeqAt.in_tuple_reads q2 q1 c1 c2 hr ⟨.bl _,H,I,rfl,by simpa using q⟩
   ·exact SeqAt.notIn_tuple_reads q2 q1 c1 c2 hr ⟨.bl _,H,I,rfl,by simpa using q⟩
  |ref a =>
   have h3:rd g 7 (.ref a)=some (.list ps):=by
    simp only[rd];rw[show d5 g a=some l from h0];dsimp only;rw[show l.mapM (rd g 6)=some ps from h1]
    rfl
   obtain⟨bs,q2,d2⟩:=M5 I R 7 h3 re ry;have hr:X.A.units+1+min (PyData.depthAll ps) p.depth<cLine:=by omega
   cases neg
   ·exact SeqAt.in_list_reads q2 q1 c1 c2 hr ⟨.bl _,H,I,rfl,by simpa using q⟩
   ·exact SeqAt.notIn_list_reads q2 q1 c1 c2 hr ⟨.bl _,H,I,rfl,by simpa using q⟩
  |_=>cases h0
theorem Q2(hu:X.A.units+100<cLine)(op:CmpOp):eI X (compareOp op) (r2 X.K (.cmp op)):=by
 intro pins s Z H x y v u Q I rx ry h;obtain⟨d,e,g,ρ,R,gp,re,d',g',⟨x',y',b,ex,h,rfl,rfl⟩,q⟩:=h;obtain⟨rfl,rfl⟩:=s9 ex;have fin:=q.now R (.bl b);have mD:∀{P:Int->Int->Bool},(∃i j,d=.int i/\e=.int j/\b=P i j)->∃i j,x=.int i/\y=.int j/\b=P i j:=λhh=>by
  obtain⟨i,j,z1,z2,z3⟩:=hh;exact⟨i,j,(z1▸gp).i3,(z2▸re).i3,z3⟩
 cases op
 ·exact FV hu I rx ry R gp re h false (by simpa using fin)
 ·exact FV hu I rx ry R gp re h true (by simpa using fin)
 ·obtain⟨i,j,e1,e2,e3⟩:=mD (P:=λi j=>decide (i<j)) h;exact KR pins s Z H _ _ v u Q I rx ry ⟨i,j,e1,e2,by subst e3;exact fin⟩
 ·obtain⟨i,j,e1,e2,e3⟩:=mD (P:=λi j=>decide (i<=j)) h;exact KQ pins s Z H _ _ v u Q I rx ry ⟨i,j,e1,e2,by subst e3;exact fin⟩
 ·obtain⟨i,j,e1,e2,e3⟩:=mD (P:=λi j=>decide (j<i)) h;exact KP pins s Z H _ _ v u Q I rx ry ⟨i,j,e1,e2,by subst e3;exact fin⟩
 ·obtain⟨i,j,e1,e2,e3⟩:=mD (P:=λi j=>decide (j<=i)) h;exact KO pins s Z H _ _ v u Q I rx ry ⟨i,j,e1,e2,by subst e3;exact fin⟩
 ·obtain⟨rfl,rfl⟩:=(show _/\_ from h)
  obtain rfl:=re.uL;refine MJ pins s Z H _ _ v u Q I rx ry ⟨rfl,?_⟩;have e:U1 d=decide (x=V.bw):=by cases gp<;>simp[U1]
  rw[<- e];exact fin
 ·obtain⟨rfl,rfl⟩:=(show _/\_ from h)
  obtain rfl:=re.uL;refine OY pins s Z H _ _ v u Q I rx ry ⟨rfl,?_⟩;have e:U1 d=decide (x=V.bw):=by cases gp<;>simp[U1]
  rw[<- e];exact fin
 ·rcases h with h|⟨a,S,n,i,rfl,ha,rfl,rfl⟩
  ·exact in_of hu I rx ry R gp re h false (by simpa using fin)
  ·obtain⟨a',rfl,ra⟩:=re.i9;obtain rfl:=gp.i3;exact Ue pins s Z H _ _ v u Q I rx ry ⟨i,a',S,n,rfl,rfl,R.set ha ra,fin⟩
 ·rcases h with h|⟨a,S,n,i,rfl,ha,rfl,hb⟩
  ·exact in_of hu I rx ry R gp re h true (by simpa using fin)
  ·obtain⟨a',rfl,ra⟩:=re.i9;obtain rfl:=gp.i3;exact Rm pins s Z H _ _ v u Q I rx ry ⟨i,a',S,n,rfl,rfl,R.set ha ra,by rw[<- hb,qh];exact fin⟩
theorem empty_eq{K ρ H}{l:List D}{vs:List V}(r:b8 K ρ H l vs):l.isEmpty=vs.isEmpty:=by cases r<;>rfl
theorem Oc{K:PySem.W.Frag}{ρ:List Addr}{g:G}{H:Hp}{d:D}{x:V}{b:Bool}(R:Rl K ρ g H)(r:d8 K ρ H d x)(h:CD g d b):zW K x H b:=by
 rcases h with⟨rfl,rfl⟩|rfl|⟨i,rfl,rfl⟩|⟨l,rfl,rfl⟩|⟨a,l,rfl,hl,rfl⟩
 ·obtain rfl:=r.uL;rfl
 ·obtain rfl:=r.F2;rfl
 ·obtain rfl:=r.i3;rfl
 ·obtain⟨a,vs,rfl,ht,rs⟩:=r.E2;exact .inr (.inl ⟨_,ht.sq,by rw[empty_eq rs]⟩)
 ·obtain⟨a',rfl,ha⟩:=r.i9;obtain⟨vs,hq,rs⟩:=R.items hl ha;exact .inl ⟨_,hq,by rw[empty_eq rs]⟩
theorem Om{K ρ H}{l:List D}{vs:List V}{i:Int}{d:D}(r:b8 K ρ H l vs)(h:fB l i=some d):∃v,fB vs i=some v/\d8 K ρ H d v:=by
 unfold fB at h ⊢;rw[<- r.length];cases e:jT l.length i with
 |none=>rw[e] at h;cases h
 |some j =>
  rw[e] at h;exact r.get h
theorem uO{K ρ H}{g:G}{x:D}{v:V}{l:List D}(R:Rl K ρ g H)(r:d8 K ρ H x v)(h:E9 g x=some l):∃a vs,v=.ref a/\b8 K ρ H l vs/\((∃i,x=.ref i/\ρ[i]?=some a)/\eQ K H a vs\/x=.tup l/\TupAt K H a vs):=by
 cases r with
 |tup ht rs=>cases h;exact⟨_,_,rfl,rs,.inr ⟨rfl,ht⟩⟩
 |ref ha=>obtain⟨vs,hq,rs⟩:=R.items h ha;exact⟨_,_,rfl,rs,.inl ⟨⟨_,rfl,ha⟩,hq⟩⟩
 |_=>cases h
theorem Ku(hu:X.A.units+100<cLine):oW X (r2 X.K .ix):=by
 intro value slice pins s Z H x y v u Q I rx ry h hs;obtain⟨d,e,g,ρ,R,gp,re,d',g',⟨rfl,h⟩,q⟩:=h;rcases h with⟨x',l,i,ex,hl,ha⟩|⟨a,kvs,y',c,ex,ha,hc,hv⟩|⟨x',i,c,ex,h0,h1,rfl⟩
 ·obtain⟨rfl,rfl⟩:=s9 ex;obtain rfl:=re.i3;obtain⟨a,vs,rfl,rs,h⟩:=uO R gp hl;obtain⟨w,hw,eZ⟩:=Om rs ha;rcases h with⟨_,hq⟩|⟨_,ht⟩
  ·exact Fl value slice pins s Z H _ _ v u Q I rx ry ⟨_,_,i,w,rfl,rfl,hq,hw,q.now R eZ⟩ hs
  ·exact Mn value slice pins s Z H _ _ v u Q I rx ry ⟨_,_,i,w,rfl,rfl,ht.sq,hw,q.now R eZ⟩ hs
 ·obtain⟨rfl,rfl⟩:=s9 ex;obtain⟨a',rfl,ra⟩:=gp.i9;obtain⟨vs,z,rs⟩:=R.dP ha ra;have:=Q5 hc re;subst this;have q2:=rs.val c;rw[hv] at q2;obtain⟨w,hw,eZ⟩:=q2.some;exact OL (by omega) value slice pins s Z H _ _ v u Q I rx ry ⟨_,w,rfl,by have:=K3.k (k:=c) z;rw[hw] at this;exact this,q.now R eZ⟩ hs
 ·obtain⟨rfl,rfl⟩:=s9 ex;obtain rfl:=gp.A1;obtain rfl:=re.i3;exact Mm value slice pins s Z H _ _ v u Q I rx ry ⟨x',i,c,rfl,rfl,j7 h0,h1,q.now R (.str _)⟩ hs
end
end M

namespace M
open PySem L2 PySem.Spec PyProof.Rows
section
variable{X:Cx}
def Hh(K:PySem.W.Frag):V->Option Int->Option Int->Hp->VK->Prop:=λx lo hi H Q=>∃d g ρ d' g',Rl K ρ g H/\d8 K ρ H d x/\qt d lo hi g d' g'/\LQ K ρ H Q d' g'
theorem zK:sX X (Hh X.K):=by
 intro pins s Z H x v vl vu lo hi sl Q I rx hs pl pu h;obtain⟨d,g,ρ,d',g',R,gp,h,q⟩:=h;rcases h with⟨l,rfl,rfl,rfl⟩|⟨a,l,rfl,hl,rfl,rfl⟩
 ·obtain⟨a,vs,rfl,ht,rs⟩:=gp.E2;refine Wj pins s Z H _ v vl vu lo hi sl Q I rx hs pl pu ⟨_,_,rfl,ht.sq,λz=>?_,λp hp=>q.tup R hp (rs.cut lo hi)⟩;refine q.now R (.tup ht ?_);have:=rs.cut lo hi;rw[z] at this;exact this
 ·obtain⟨a',rfl,ha⟩:=gp.i9;obtain⟨vs,hq,rs⟩:=R.items hl ha;exact Wi pins s Z H _ v vl vu lo hi sl Q I rx hs pl pu ⟨_,_,rfl,hq,λp hp=>q.new R hp (rs.cut lo hi)⟩
def Qn(K:PySem.W.Frag):V->V->V->Hp->(Hp->Prop)->Prop:=λo i v H Q=>∃xV di dv g ρ,Rl K ρ g H/\d8 K ρ H xV o/\d8 K ρ H di i/\d8 K ρ H dv v/\S1 xV di dv g (λg'=>∀bq H',Ext ρ H bq H'->Rl K bq g' H'->Q H')
theorem NG(hu:X.A.units+100<cLine):zU X (Qn X.K):=by
 intro pins s Z H o i v ov iv u Q I ro ri rv h;obtain⟨xV,di,dv,g,ρ,R,r1,r2,r3,g',h,q⟩:=h;rcases h with⟨a,i',l,j,rfl,rfl,hl,hj,rfl⟩|⟨a,kvs,c,rfl,ha,hc,hz,rfl⟩
 ·obtain⟨a',rfl,ha⟩:=r1.i9;obtain rfl:=r2.i3;obtain⟨vs,z,rs⟩:=R.lst hl ha;obtain⟨R',e'⟩:=R.write hl ha (rs.set r3 j);exact set_list pins s Z H _ _ _ ov iv u Q I ro ri rv ⟨_,vs,_,j,rfl,rfl,z,by rw[<- rs.length];exact hj,q ρ _ e' R'⟩
 ·obtain⟨a',rfl,ra⟩:=r1.i9;obtain⟨vs,z,rs⟩:=R.dP ha ra;have:=Q5 hc r2;subst this;obtain⟨R',e'⟩:=R.put (o':=.dP (putD kvs c dv)) (u:=.dK (putK vs c v)) ha rfl ra (rs.put r3);cases ro;exact Tx (by omega) I (vb.k z (by rw[<- rs.length];exact yR hz)) ri rv λs' I'=>⟨_,I',q ρ _ e' R'⟩
theorem Mv:j9 X (.builtin "len") (rN X.K .len):=by
 intro pins s Z H xs us Q I r h;obtain⟨ds,g,ρ,R,rs,d',g',⟨rfl,h⟩,q⟩:=h;rcases h with⟨x,l,rfl,hl,rfl⟩|⟨a,kvs,rfl,ha,rfl⟩|⟨x,rfl,hz,rfl⟩
 ·obtain⟨v,rfl,rv⟩:=rs.one;obtain⟨a,vs,rfl,rl,h⟩:=uO R rv hl;refine QY pins s Z H _ us Q I r ⟨_,_,rfl,?_,by rw[<- rl.length];exact q.now R (.int _)⟩;exact h.imp (λz=>z.2) (λz=>z.2.sq)
 ·obtain⟨v,rfl,rv⟩:=rs.one;obtain⟨a',rfl,ra⟩:=rv.i9;obtain⟨vs,z,rk⟩:=R.dP ha ra;exact Tp pins s Z H _ us Q I r ⟨_,_,rfl,z,by rw[<- rk.length];exact q.now R (.int _)⟩
 ·obtain⟨v,rfl,rv⟩:=rs.one;obtain rfl:=rv.A1;exact QZ pins s Z H _ us Q I r ⟨_,rfl,j7 hz,q.now R (.int _)⟩
theorem i4.keys{α:Type}{K ρ H}{ds:List (α×D)}{vs:List (α×V)}(h:i4 K ρ H ds vs):ds.map (·.1)=vs.map (·.1):=by
 induction h with
 |nil=>rfl
 |cons _ _ ih=>rw[aU,aU,ih]
theorem ON(hc:X.calm=true):j9 X (.type "list") (rN X.K .list):=by
 intro pins s Z H xs us Q I r h;obtain⟨ds,g,ρ,R,rs,d',g',⟨x,l,rfl,hl,rfl,rfl⟩|⟨⟨⟩⟩,q⟩:=h;obtain⟨v,rfl,rv⟩:=rs.one;obtain⟨a,vs,rfl,rl,h⟩:=uO R rv hl;exact Ra pins s Z H _ us Q I r ⟨_,_,rfl,h.imp (λz=>z.2) (λz=>z.2.sq),λp hp=>q.new R hp rl⟩
theorem SY:j9 X (.type "tuple") (rN X.K .tuple):=by
 intro pins s Z H xs us Q I r h;obtain⟨ds,g,ρ,R,rs,d',g',⟨x,l,rfl,hl,rfl,rfl⟩,q⟩:=h;obtain⟨v,rfl,rv⟩:=rs.one;obtain⟨a,vs,rfl,rl,h⟩:=uO R rv hl;refine Rw pins s Z H _ us Q I r ⟨a,vs,rfl,?_⟩;exact h.imp (λz=>⟨z.2,λp hp=>q.tup R hp rl⟩) (λz=>⟨z.2.sq,q.now R (.tup z.2 rl)⟩)
theorem OK:j9 X (.builtin "isinstance") (rN X.K .isin):=by
 intro pins s Z H xs us Q I r h;obtain⟨ds,g,ρ,R,rs,d',g',⟨x,c,b,rfl,hc,hb,rfl,rfl⟩,q⟩:=h;obtain⟨v,w,rfl,r1,r2⟩:=rs.two;obtain rfl:=r2.LO;have fin:=q.now R (.bl b);have go:∀(t:Value) (v:V),fM X.K H v t->PySem.W.kitOne X.K t (.type c)=some b->Vals [v,V.ty c] us->wpAny (model X.prog X.w) X.A (call (.builtin "isinstance") us) (EP X pins Z Q) X.xe s :=
  λt v ht hk r=>QE pins s Z H _ us Q I r ⟨v,t,c,b,rfl,ht,hk,fin⟩
 simp only[List.mem_cons,List.mem_nil_iff,or_false] at hc;cases r1 with
 |bw=>refine go _ _ .bw ?_ r;cases hb;rcases hc with rfl|rfl|rfl|rfl|rfl<;>rfl
 |bl y=>refine go _ _ (.bl y) ?_ r;cases hb;rcases hc with rfl|rfl|rfl|rfl|rfl<;>rfl
 |int y=>refine go _ _ (.int y) ?_ r;cases hb;rcases hc with rfl|rfl|rfl|rfl|rfl<;>rfl
 |str y=>refine go _ _ (.str y) ?_ r;cases hb;rcases hc with rfl|rfl|rfl|rfl|rfl<;>rfl
 |ty _=>cases hb
 |tup ht rs =>
  cases hb;rcases ht with ht|ht
  ·refine go _ _ (.tup ht) ?_ r;rcases hc with rfl|rfl|rfl|rfl|rfl<;>rfl
  ·obtain⟨o,aQ,n,lk,jJ,_⟩:=ht;obtain⟨u,w',rfl,ru,eZ⟩:=vals2 r;cases (show w'=Value.type c from eZ);cases ru;have hk:PySem.W.kitOne X.K (.type "tuple") (.type c)=some (c=="tuple"):=by rcases hc with rfl|rfl|rfl|rfl|rfl<;>rfl
   exact bG GB I.fu ⟨o,I.fu _ _ lk,jJ⟩ hk (λz=>nomatch z) λtk=>⟨.bl _,H,I.tok tk,rfl,fin⟩
 |@ref i a ha =>
  have wO:∃m,g'[i]?=some (.lst m)/\b=(c=="list"):=by
   simp only[zj] at hb;split at hb
   ·exact⟨_,by assumption,(aF hb).symm⟩
   ·cases hb
  obtain⟨m,e,rfl⟩:=wO;obtain⟨vs,z,_⟩:=R.lst e ha;refine go _ _ (.lst z) ?_ r;rcases hc with rfl|rfl|rfl|rfl|rfl<;>rfl
theorem UJ:∀{l:List D} {b:Bool},O4 l=some b->∃bs:List Bool,l=bs.map D.bl/\b=bs.all id:=by
 intro l
 induction l with
 |nil=>intro b h;cases h;exact⟨[],rfl,rfl⟩
 |cons d r ih =>
  intro b h;cases d<;>first|(cases h;done)|skip
  rename_i c;simp only[O4] at h;cases e:O4 r with
  |none=>rw[e] at h;cases h
  |some b' =>
   rw[e] at h;cases h;obtain⟨bs,rfl,rfl⟩:=ih e;exact⟨c::bs,rfl,by simp⟩
theorem b8.MD{K ρ H}:∀{bs:List Bool} {vs:List V},b8 K ρ H (bs.map D.bl) vs->vs=bs.map V.bl:=by
 intro bs
 induction bs with
 |nil=>intro vs h;cases h;rfl
 |cons b r ih =>
  intro vs h;cases h with
  |cons h rr=>rw[ih rr,h.F2];rfl
theorem Ma(hc:X.calm=true):j9 X (.builtin "all") (rN X.K .all):=by
 intro pins s Z H xs us Q I r h;obtain⟨ds,g,ρ,R,rs,d',g',⟨a,l,b,rfl,hl,hb,rfl,rfl⟩,q⟩:=h;obtain⟨v,rfl,rv⟩:=rs.one;obtain⟨a',rfl,ra⟩:=rv.i9;obtain⟨vs,hq,rs⟩:=R.items hl ra;rcases hb with hb|⟨ns,rfl,rfl⟩
 rotate_left
 ·have:=rs.ints;subst this;exact To hc pins s Z H _ us Q I r ⟨_,ns,rfl,hq,q.now R (.bl _)⟩
 obtain⟨bs,rfl,rfl⟩:=UJ hb;have:=rs.MD;subst this;exact Tn hc pins s Z H _ us Q I r ⟨_,bs,rfl,hq,q.now R (.bl _)⟩
theorem Mz(hc:X.calm=true):j9 X (.builtin "max") (rN X.K .max):=by
 intro pins s Z H xs us Q I r h;obtain⟨ds,g,ρ,R,rs,d',g',⟨rfl,⟨i,j,rfl,rfl⟩|⟨a,ns,M,rfl,hl,h1,h2,rfl⟩⟩,q⟩:=h
 rotate_left
 ·obtain⟨v,rfl,rv⟩:=rs.one;obtain⟨a',rfl,ra⟩:=rv.i9;obtain⟨vs,hq,rs⟩:=R.items hl ra;have:=rs.ints;subst this;exact Tr hc pins s Z H _ us Q I r ⟨_,ns,M,rfl,hq,h1,h2,q.now R (.int _)⟩
 obtain⟨v,w,rfl,r1,r2⟩:=rs.two;obtain rfl:=r1.i3;obtain rfl:=r2.i3;exact Tq hc pins s Z H _ us Q I r ⟨i,j,rfl,q.now R (.int _)⟩
theorem MA(hc:X.calm=true):j9 X (.builtin "min") (rN X.K .min):=by
 intro pins s Z H xs us Q I r h;obtain⟨ds,g,ρ,R,rs,d',g',⟨rfl,⟨i,j,rfl,rfl⟩|⟨a,ns,M,rfl,hl,h1,h2,rfl⟩⟩,q⟩:=h
 rotate_left
 ·obtain⟨v,rfl,rv⟩:=rs.one;obtain⟨a',rfl,ra⟩:=rv.i9;obtain⟨vs,hq,rs⟩:=R.items hl ra;have:=rs.ints;subst this;exact Tt hc pins s Z H _ us Q I r ⟨_,ns,M,rfl,hq,h1,h2,q.now R (.int _)⟩
 obtain⟨v,w,rfl,r1,r2⟩:=rs.two;obtain rfl:=r1.i3;obtain rfl:=r2.i3;exact Ts hc pins s Z H _ us Q I r ⟨i,j,rfl,q.now R (.int _)⟩
theorem NQ(hc:X.calm=true):j9 X (.builtin "sum") (rN X.K .sum):=by
 intro pins s Z H xs us Q I r h;obtain⟨ds,g,ρ,R,rs,d',g',⟨a,ns,rfl,hl,rfl,rfl⟩,q⟩:=h;obtain⟨v,rfl,rv⟩:=rs.one;obtain⟨a',rfl,ra⟩:=rv.i9;obtain⟨vs,hq,rs⟩:=R.items hl ra;have:=rs.ints;subst this;exact Tu hc pins s Z H _ us Q I r ⟨_,ns,rfl,hq,q.now R (.int _)⟩
theorem Ml:j9 X (.type "int") (rN X.K .int):=by
 intro pins s Z H xs us Q I r h;obtain⟨ds,g,ρ,R,rs,d',g',⟨rfl,h⟩,q⟩:=h;rcases h with⟨i,rfl,rfl⟩|⟨b,rfl,rfl⟩
 ·obtain⟨v,rfl,rv⟩:=rs.one;obtain rfl:=rv.i3;exact Dr pins s Z H _ us Q I r (.inl ⟨i,rfl,q.now R (.int _)⟩)
 ·obtain⟨v,rfl,rv⟩:=rs.one;obtain rfl:=rv.F2;exact Dr pins s Z H _ us Q I r (.inr ⟨b,rfl,q.now R (.int _)⟩)
def rM(K:PySem.W.Frag)(p:Pr):V->List V->Hp->VK->Prop:=λx xs H Q=>∃d ds g ρ,Rl K ρ g H/\d8 K ρ H d x/\b8 K ρ H ds xs/\cF p (d::ds) g (LQ K ρ H Q)
theorem U9{a b:D}{l m:List D}(h:a::l=b::m):a=b/\l=m:=by cases h;exact⟨rfl,rfl⟩
theorem Tf:lR X "list.append" (rM X.K .append):=by
 intro pins s Z H x xs v us Q I rx r h;obtain⟨d,ds,g,ρ,R,rd,rs,d',g',⟨a,y,l,ex,ha,hz,rfl,rfl⟩,q⟩:=h;obtain⟨rfl,rfl⟩:=U9 ex;obtain⟨a',rfl,ra⟩:=rd.i9;obtain⟨w,rfl,eZ⟩:=rs.one;obtain⟨vs,z1,rv⟩:=R.lst ha ra;obtain⟨R2,e2⟩:=R.write ha ra (rv.append (.cons eZ .nil));exact Ub pins s Z H _ _ v us Q I rx r ⟨_,vs,_,rfl,rfl,z1,by rw[<- rv.length];exact yR hz,q ρ _ _ e2 R2 .bw⟩
theorem Mg(hu:X.A.units+100<cLine):lR X "dict.get" (rM X.K .get):=by
 intro pins s Z H x xs v us Q I rx r h;obtain⟨d,ds,g,ρ,R,rd,rs,d',g',⟨a,y,z,kvs,c,ex,ha,hc,rfl,rfl⟩,q⟩:=h;obtain⟨rfl,rfl⟩:=U9 ex;obtain⟨a',rfl,ra⟩:=rd.i9;obtain⟨w1,w2,rfl,r1,r2⟩:=rs.two;obtain⟨vs,z1,rv⟩:=R.dP ha ra;have:=Q5 hc r1;subst this;obtain⟨u1,u2,rfl,p1,p2⟩:=vals2 r;cases rx;refine Mc (by omega) I (K3.k z1) p1 p2 λw' s4 I4 eZ=>⟨_,H,I4,eZ,q.now R ?_⟩
 have q:=rv.val c;cases e1:u9 kvs c with
 |none =>
  rw[e1] at q;cases e2:E1 vs c with
  |none=>exact r2
  |some w=>rw[e2] at q;exact q.elim
 |some d' =>
  rw[e1] at q;obtain⟨w,hw,q⟩:=q.some;rw[hw];exact q
theorem Su:lR X "list.pop" (rM X.K .pop):=by
 intro pins s Z H x xs v us Q I rx r h;obtain⟨d,ds,g,ρ,R,rd,rs,y,g',⟨a,i,l,k,ex,ha,h1,h2,hk,hy,rfl⟩,q⟩:=h;obtain⟨rfl,rfl⟩:=U9 ex;obtain⟨a',rfl,ra⟩:=rd.i9;obtain⟨w,rfl,eZ⟩:=rs.one;obtain rfl:=eZ.i3;obtain⟨vs,z1,rv⟩:=R.lst ha ra;obtain⟨w,hw,eZ⟩:=rv.get hy;obtain⟨R2,e2⟩:=R.write ha ra (rv.erase k);exact Sa pins s Z H _ _ v us Q I rx r ⟨_,vs,i,k,w,rfl,rfl,z1,h1,h2,by rw[<- rv.length];exact hk,hw,q ρ _ _ e2 R2 (eZ.ext e2)⟩
theorem b8.strs{K ρ H}{ys:List Str}{vs:List V}(h:b8 K ρ H (ys.map D.str) vs):vs=ys.map V.str:=by
 induction ys generalizing vs with
 |nil=>cases h;rfl
 |cons y ys ih =>
  cases h with
  |cons q r=>cases q;rw[ih r];rfl
theorem ty_list{d:D}{v:V}{g:G}{ρ:List Addr}{H:Hp}(R:Rl X.K ρ g H)(r:d8 X.K ρ H d v)(h:∃a l,d=.ref a/\d5 g a=some l):lV X.K "list" v H:=by
 obtain⟨a,l,rfl,hl⟩:=h;obtain⟨a',rfl,ra⟩:=r.i9;obtain⟨vs,hq,_⟩:=R.items hl ra;exact .inl ⟨rfl,vs,hq⟩
theorem VT:lR X "set.add" (rM X.K .km):=by
 intro pins s Z H x xs v us Q I rx r h;obtain⟨d,ds,g,ρ,R,rd,rs,d',g',⟨a,i,S,n,ex,ha,hn,rfl,rfl⟩,q⟩:=h;obtain⟨rfl,rfl⟩:=U9 ex;obtain⟨a',rfl,ra⟩:=rd.i9;obtain⟨w,rfl,eZ⟩:=rs.one;obtain rfl:=eZ.i3;obtain⟨R2,e2⟩:=R.put (o':=.set (λk=>S k||decide (k=i)) (if S i then n else n+1)) (u:=.set (λk=>S k||decide (k=i)) (if S i then n else n+1)) ha rfl ra ⟨rfl,rfl⟩;exact Vc pins s Z H _ _ v us Q I rx r ⟨_,i,S,n,rfl,rfl,R.set ha ra,hn,q ρ _ _ e2 R2 .bw⟩
theorem ty_set{d:D}{v:V}{g:G}{ρ:List Addr}{H:Hp}(R:Rl X.K ρ g H)(r:d8 X.K ρ H d v)(h:lz .km d g):lV X.K "set" v H:=by
 obtain⟨a,S,n,rfl,hl⟩:=h;obtain⟨a',rfl,ra⟩:=r.i9;exact .inr (.inr (.inr ⟨rfl,S,n,R.set hl ra⟩))
theorem ty_dict{d:D}{v:V}{g:G}{ρ:List Addr}{H:Hp}(R:Rl X.K ρ g H)(r:d8 X.K ρ H d v)(h:lz .get d g):lV X.K "dict" v H:=by
 obtain⟨a,l,rfl,hl⟩:=h;obtain⟨a',rfl,ra⟩:=r.i9;obtain⟨vs,hq,_⟩:=R.dP hl ra;exact .inr (.inr (.inl ⟨rfl,.inl ⟨vs,hq⟩⟩))
end
end M

namespace M
open PySem L2 PySem.Spec PyProof.Rows
noncomputable abbrev fR:=List Str×XK
def LX(K:PySem.W.Frag)(ρ:List Addr)(H:Hp)(Ξ:fR):KX:=λx g'=>∀bq H' C,Ext ρ H bq H'->Rl K bq g' H'->x.cls∈Ξ.1->m5 K x.cls C->Ξ.2 (.ref C) none H'
theorem LX.ext{K:PySem.W.Frag}{ρ bC:List Addr}{H H1:Hp}{Ξ:fR}(e:Ext ρ H bC H1){x:Xn}{g:G}(h:LX K ρ H Ξ x g):LX K bC H1 Ξ x g:=λbq H' C e' R hm c=>h bq H' C (e.trans e') R hm c
noncomputable abbrev mf(ex:List Str):fR:=(ex,λ_ _ _=>False)
def LE(K:PySem.W.Frag)(Ξ:fR)(t:S->G->KD->KX->Prop):TE:=λbA H Q=>∃Z g ρ,k7 K ρ H Z bA/\Rl K ρ g H/\t Z g (LQ K ρ H Q) (LX K ρ H Ξ)
def LT(K:PySem.W.Frag)(Ξ:fR)(t:S->G->(Bool->G->Prop)->KX->Prop):TT:=λbA H Q=>∃Z g ρ,k7 K ρ H Z bA/\Rl K ρ g H/\t Z g (λb g'=>∀bq H',Ext ρ H bq H'->Rl K bq g' H'->Q b H') (LX K ρ H Ξ)
def LA(K:PySem.W.Frag)(Ξ:fR)(t:S->G->(List D->G->Prop)->KX->Prop):TA:=λbA H Q=>∃Z g ρ,k7 K ρ H Z bA/\Rl K ρ g H/\t Z g (λds g'=>∀bq H' vs,Ext ρ H bq H'->Rl K bq g' H'->b8 K bq H' ds vs->Q vs H') (LX K ρ H Ξ)
def P6(K:PySem.W.Frag)(eY:List Addr)(H0:Hp)(k:IK)(J:It):Prop:=∀ρ g H,Ext eY H0 ρ H->Rl K ρ g H->∀i,(k.at i g=some none->J.stop i H) /\
 ∀d,k.at i g=some (some d)->J.go i H/\∀v H',J.nP i H v H'->Ext ρ H ρ H'/\Rl K ρ g H'/\d8 K ρ H' d v
def LI(K:PySem.W.Frag)(Ξ:fR)(t:S->G->(IK->G->Prop)->KX->Prop):TI:=λbA H R=>∃Z g ρ,k7 K ρ H Z bA/\Rl K ρ g H/\t Z g (λk g'=>∀bq H' J,Ext ρ H bq H'->Rl K bq g' H'->P6 K bq H' k J->R J H') (LX K ρ H Ξ)
def LG(K:PySem.W.Frag)(t:MT):TG:=λv bA H Q=>∃d Z g ρ,k7 K ρ H Z bA/\Rl K ρ g H/\d8 K ρ H d v/\iV t d Z (λbI=>∀cA,k7 K ρ H bI cA->Q cA H)
def LN(K:PySem.W.Frag)(ρ:List Addr)(H:Hp)(N:L2.Ends):Ends where
 nx:=λbI g'=>∀bq H' cA,Ext ρ H bq H'->Rl K bq g' H'->k7 K bq H' bI cA->N.nx cA H'
 rt:=LQ K ρ H N.rt
 bk:=λbI g'=>∀bq H' cA,Ext ρ H bq H'->Rl K bq g' H'->k7 K bq H' bI cA->N.bk cA H'
 ct:=λbI g'=>∀bq H' cA,Ext ρ H bq H'->Rl K bq g' H'->k7 K bq H' bI cA->N.ct cA H'
def LS(K:PySem.W.Frag)(Ξ:fR)(t:Ends->S->G->KX->Prop):TS:=λN bA H=>∃Z g ρ,k7 K ρ H Z bA/\Rl K ρ g H/\t (LN K ρ H N) Z g (LX K ρ H Ξ)
end M
namespace L2
open PySem PySem.Spec PyProof.Rows
section
variable{X:Cx}{e:Expr}
theorem PE.imp{t t':TE}(h:PE X e t)(i:∀Z H Q,t' Z H Q->t Z H Q):PE X e t':=λpins s Z H Q I q=>h pins s Z H Q I (i Z H Q q)
theorem PT.imp{t t':TT}(h:PT X e t)(i:∀Z H Q,t' Z H Q->t Z H Q):PT X e t':=λpins s Z H Q I q=>h pins s Z H Q I (i Z H Q q)
theorem PW.imp{t t':TT}(h:PW X e t)(i:∀Z H Q,t' Z H Q->t Z H Q):PW X e t':=λw pins s Z H Q I q=>h w pins s Z H Q I (i Z H Q q)
theorem PA.imp{es:List Expr}{t t':TA}(h:PA X es t)(i:∀Z H Q,t' Z H Q->t Z H Q):PA X es t':=λp pins s Z H Q I q=>h p pins s Z H Q I (i Z H Q q)
theorem ka.imp{es:List Expr}{t t':TT}(h:ka X es t)(i:∀Z H Q,t' Z H Q->t Z H Q):ka X es t':=λpins s Z H Q I q=>h pins s Z H Q I (i Z H Q q)
theorem PI.imp{tg:Expr}{t t':TI}(h:PI X tg e t)(i:∀Z H Q,t' Z H Q->t Z H Q):PI X tg e t':=λpins s Z H Q I q=>h pins s Z H Q I (i Z H Q q)
theorem PG.imp{t t':TG}(h:PG X e t)(i:∀v Z H Q,t' v Z H Q->t v Z H Q):PG X e t':=λpins s Z H v u Q I r q=>h pins s Z H v u Q I r (i v Z H Q q)
theorem PS.imp{st:Stmt}{t t':TS}(h:PS X st t)(i:∀N Z H,t' N Z H->t N Z H):PS X st t':=λpins s Z H N I q=>h pins s Z H N I (i N Z H q)
theorem hJ.imp{st:List Stmt}{t t':TS}(h:hJ X st t)(i:∀N Z H,t' N Z H->t N Z H):hJ X st t':=λpins s Z H N I q=>h pins s Z H N I (i N Z H q)
end
end L2
namespace M
open PySem L2 PySem.Spec PyProof.Rows
section
variable{K:PySem.W.Frag}{Ξ:fR}{P:eG}(hP:i5 P){ρ eY:List Addr}{H H0:Hp}{Z:S}{bA:L2.St}{g:G}{m:ME}
include hP
theorem eA{Q0:KD}{Q:VK}(s:k7 K ρ H Z bA)(R:Rl K ρ g H)(e0:Ext eY H0 ρ H)(h:aR P m Z g Q0 (LX K eY H0 Ξ))(k:∀x g1 bC H1 v1,Ext ρ H bC H1->Rl K bC g1 H1->d8 K bC H1 x v1->Q0 x g1->Q v1 H1):LE K Ξ (aR P m) bA H Q :=
 ⟨Z,g,ρ,s,R,b0 hP m _ _ _ _ _ _ (λx g1 h bC H1 v1 e1 R1 r1=>k x g1 bC H1 v1 e1 R1 r1 h) (λ_ _ z=>LX.ext e0 z) h⟩
theorem iU{Q0:List D->G->Prop}{Q:List V->Hp->Prop}(s:k7 K ρ H Z bA)(R:Rl K ρ g H)(e0:Ext eY H0 ρ H)(h:eK P m Z g Q0 (LX K eY H0 Ξ))(k:∀x g1 bC H1 v1,Ext ρ H bC H1->Rl K bC g1 H1->b8 K bC H1 x v1->Q0 x g1->Q v1 H1):LA K Ξ (eK P m) bA H Q :=
 ⟨Z,g,ρ,s,R,n8 hP m _ _ _ _ _ _ (λx g1 h bC H1 v1 e1 R1 r1=>k x g1 bC H1 v1 e1 R1 r1 h) (λ_ _ z=>LX.ext e0 z) h⟩
theorem mO{Q0:Bool->G->Prop}{Q:Bool->Hp->Prop}(s:k7 K ρ H Z bA)(R:Rl K ρ g H)(e0:Ext eY H0 ρ H)(h:cW P m Z g Q0 (LX K eY H0 Ξ))(k:∀t g1 bC H1,Ext ρ H bC H1->Rl K bC g1 H1->Q0 t g1->Q t H1):LT K Ξ (cW P m) bA H Q :=
 ⟨Z,g,ρ,s,R,n4 hP m _ _ _ _ _ _ (λt g1 h bC H1 e1 R1=>k t g1 bC H1 e1 R1 h) (λ_ _ z=>LX.ext e0 z) h⟩
theorem pe{ms:MS}{N:L2.Ends}{N0:Ends}(s:k7 K ρ H Z bA)(R:Rl K ρ g H)(e0:Ext eY H0 ρ H)(h:wpS P ms N0 Z g (LX K eY H0 Ξ))(k:N0.le (LN K ρ H N)):LS K Ξ (wpS P ms) N bA H :=
 ⟨Z,g,ρ,s,R,wpS_mono hP ms _ _ _ _ _ _ k (λ_ _ z=>LX.ext e0 z) h⟩
end
theorem b8.kF{K ρ H}(lo:Int)(n:Nat):b8 K ρ H (j6 lo n) ((List.range n).map λ(k:Nat)=>V.int (lo+k)):=by
 unfold j6;have:∀l:List Nat,b8 K ρ H (l.map λ(k:Nat)=>D.int (lo+k)) (l.map λ(k:Nat)=>V.int (lo+k)):=by
  intro l
  induction l with
  |nil=>exact .nil
  |cons x r ih=>exact .cons (.int _) ih
 exact this _
section
variable{X:Cx}{Ξ:fR}{P:eG}(hP:i5 P){a b c e:Expr}{ma mb mc:ME}{pos:Pos}{p:Pr}
include hP
theorem yx(h:PE X e (ph (r2 X.K p) (LE X.K Ξ (aR P ma)) (LE X.K Ξ (aR P mb)))):PE X e (LE X.K Ξ (aR P (.prim p (.cons ma (.cons mb .nil))))) :=
 h.imp λbA H Q aX=>by
  obtain⟨Z,g,ρ,s,R,h⟩:=aX;exact eA hP s R (.refl _ _) h λx g1 bC H1 v1 e1 R1 r1 h=>eA hP (s.ext e1) R1 e1 h λy g2 dH H2 v2 e2 R2 r2 h =>
   ⟨x,y,g2,dH,R2,r1.ext e2,r2,m6 (λd g' h=>h.ext (e1.trans e2)) h⟩
theorem NO{op:CmpOp}(h:PT X e (zM (ph (r2 X.K (.cmp op)) (LE X.K Ξ (aR P ma)) (LE X.K Ξ (aR P mb))))):PT X e (LT X.K Ξ (cW P (.dU (.prim (.cmp op) (.cons ma (.cons mb .nil)))))) :=
 h.imp λbA H Q aX=>by
  obtain⟨Z,g,ρ,s,R,h⟩:=aX;refine eA hP s R (.refl _ _) h λx g1 bC H1 v1 e1 R1 r1 h=>eA hP (s.ext e1) R1 e1 h λy g2 dH H2 v2 e2 R2 r2 h=>?_;obtain⟨d',g',h,q⟩:=h;obtain⟨x',y',t,ex,hc,rfl,rfl⟩:=id h;refine⟨x,y,g',dH,R2,r1.ext e2,r2,_,_,h,λbq H' v e' R' r'=>?_⟩;obtain⟨t',ht,q⟩:=q;rcases ht with⟨z,_⟩|z|⟨i,z,_⟩|⟨l,z,_⟩|⟨a,l,z,_⟩<;>cases z
  exact⟨_,r'.F2,q bq H' (e1.trans (e2.trans e')) R'⟩
theorem Lq{op:UnaryOp}(ha:PE X a (LE X.K Ξ (aR P ma))):PE X (.UnaryOp op a pos) (LE X.K Ξ (aR P (.prim (.un op) (.cons ma .nil)))) :=
 (Lb (KU op) ha).imp λbA H Q aX=>by
  obtain⟨Z,g,ρ,s,R,h⟩:=aX;exact eA hP s R (.refl _ _) h λx g1 bC H1 v1 e1 R1 r1 h=>⟨x,g1,bC,R1,r1,m6 (λd g' h=>h.ext e1) h⟩
theorem CI{op gq:CmpOp}:∀bA H Q,LE X.K Ξ (aR P (.chain op gq ma mb mc)) bA H Q->yy (r2 X.K (.cmp op)) (r2 X.K (.cmp gq)) (LE X.K Ξ (aR P ma)) (LE X.K Ξ (aR P mb)) (LE X.K Ξ (aR P mc)) bA H Q:=λbA H Q aX=>by
 obtain⟨Z,g,ρ,s,R,h⟩:=aX;refine eA hP s R (.refl _ _) h λx g1 bC H1 v1 e1 R1 r1 h=>eA hP (s.ext e1) R1 e1 h λy g2 dH H2 v2 e2 R2 r2 h=>?_;refine⟨x,y,g2,dH,R2,r1.ext e2,r2,m6 (λd g3 h ic H3 v3 e3 R3 r3=>?_) h⟩;obtain⟨t,rfl,h⟩:=h;obtain rfl:=r3.F2;refine⟨t,rfl,?_⟩;cases t
 ·exact h ic H3 _ (e1.trans (e2.trans e3)) R3 (.bl _)
 ·exact eA hP (s.ext (e1.trans (e2.trans e3))) R3 (e1.trans (e2.trans e3)) h λz g4 nO H4 v4 e4 R4 r4 h =>
   ⟨y,z,g4,nO,R4,r2.ext (e3.trans e4),r4,m6 (λd g' h=>h.ext (e1.trans (e2.trans (e3.trans e4)))) h⟩
theorem SH{op gq:CmpOp}(hu:X.A.units+100<cLine)(ha:PE X a (LE X.K Ξ (aR P ma)))(hb:PE X b (LE X.K Ξ (aR P mb)))(hc:PE X c (LE X.K Ξ (aR P mc)))(hm:lastMarks [op,gq] [b,c]=false) :
  PE X (.Compare a [op,gq] [b,c] pos) (LE X.K Ξ (aR P (.chain op gq ma mb mc))):=(Sk (Q2 hu op) (Q2 hu gq) ha hb hc hm).imp (CI hP)
theorem WB{op gq:CmpOp}{Z:S}{g:G}{Q:Bool->G->Prop}{E:KX}(h:cW P (.dU (.chain op gq ma mb mc)) Z g Q E):aR P (.chain op gq ma mb mc) Z g (λd g'=>∃t,d=.bl t/\Q t g') E:=by
 have one:∀{o:CmpOp} {xs:List D} {g:G},cF (.cmp o) xs g (λd g1=>oV g1 d λb=>Q b g1)->cF (.cmp o) xs g λd g'=>∃t,d=.bl t/\Q t g':=by
  intro o xs g h;obtain⟨d',g',h,t',ht,q⟩:=h;obtain⟨x',y',t,ex,hc,rfl,rfl⟩:=id h;refine⟨_,_,h,t',?_,q⟩;rcases ht with⟨z,_⟩|z|⟨i,z,_⟩|⟨l,z,_⟩|⟨a,l,z,_⟩<;>first|exact z|cases z
 refine b0 hP ma _ _ _ _ _ _ (λx g1 h=>b0 hP mb _ _ _ _ _ _ (λy g2 h=>m6 (λz g3 h=>?_) h) (λ_ _ z=>z) h) (λ_ _ z=>z) h;obtain⟨t,rfl,h⟩:=h;refine⟨t,rfl,?_⟩;cases t
 ·obtain⟨b,hb,q⟩:=(show oV g3 (.bl false) λb=>Q b g3 from h)
  rcases hb with⟨z,_⟩|z|⟨i,z,_⟩|⟨l,z,_⟩|⟨a,l,z,_⟩<;>first|(cases z;exact⟨_,rfl,q⟩)|cases z
 ·exact b0 hP mc _ _ _ _ _ _ (λw g4 h=>one h) (λ_ _ z=>z) h
theorem SU{op gq:CmpOp}(hu:X.A.units+100<cLine)(ha:PE X a (LE X.K Ξ (aR P ma)))(hb:PE X b (LE X.K Ξ (aR P mb)))(hc:PE X c (LE X.K Ξ (aR P mc)))(hm:lastMarks [op,gq] [b,c]=false) :
  PT X (.Compare a [op,gq] [b,c] pos) (LT X.K Ξ (cW P (.dU (.chain op gq ma mb mc)))) :=
 (Sz (Q2 hu op) (Q2 hu gq) ha hb hc hm).imp λbA H Q ⟨Z,g,ρ,s,R,h⟩ =>
  CI hP bA H _ (eA hP s R (.refl _ _) (WB hP h) λx g1 bC H1 v1 e1 R1 r1 h=>by
   obtain⟨t,rfl,h⟩:=h;exact ⟨t,r1.F2,h bC H1 e1 R1⟩)
theorem Nv{rest:List Expr}(ha:PE X a (LE X.K Ξ (aR P ma)))(hb:PE X (.BoolOp .And (b::rest) pos) (LE X.K Ξ (aR P mb))):PE X (.BoolOp .And (a::b::rest) pos) (LE X.K Ξ (aR P (.cB ma mb))) :=
 (MU ha hb).imp λbA H Q aX=>by
  obtain⟨Z,g,ρ,s,R,h⟩:=aX;refine eA hP s R (.refl _ _) h λx g1 bC H1 v1 e1 R1 r1 h=>?_;obtain⟨t,rfl,h⟩:=h;refine⟨t,r1.F2,?_⟩;cases t
  ·exact h bC H1 _ e1 R1 (.bl _)
  ·exact eA hP (s.ext e1) R1 e1 h λy g2 dH H2 v2 e2 R2 r2 h=>h dH H2 v2 (e1.trans e2) R2 r2
theorem Lp{rest:List Expr}(ha:PE X a (LE X.K Ξ (aR P ma)))(hb:PE X (.BoolOp .Or (b::rest) pos) (LE X.K Ξ (aR P mb))):PE X (.BoolOp .Or (a::b::rest) pos) (LE X.K Ξ (aR P (.jg ma mb))) :=
 (La ha hb).imp λbA H Q aX=>by
  obtain⟨Z,g,ρ,s,R,h⟩:=aX;refine eA hP s R (.refl _ _) h λx g1 bC H1 v1 e1 R1 r1 h=>?_;obtain⟨t,rfl,h⟩:=h;refine⟨t,r1.F2,?_⟩;cases t
  ·exact eA hP (s.ext e1) R1 e1 h λy g2 dH H2 v2 e2 R2 r2 h=>h dH H2 v2 (e1.trans e2) R2 r2
  ·exact h bC H1 _ e1 R1 (.bl _)
theorem NB(ha:PE X a (LE X.K Ξ (aR P ma))):PE X (.UnaryOp .Not a pos) (LE X.K Ξ (aR P (.cO ma))) :=
 (MY ha).imp λbA H Q aX=>by
  obtain⟨Z,g,ρ,s,R,h⟩:=aX;refine eA hP s R (.refl _ _) h λx g1 bC H1 v1 e1 R1 r1 h=>?_;obtain⟨t,rfl,h⟩:=h;exact⟨t,r1.F2,h bC H1 _ e1 R1 (.bl _)⟩
theorem NA(hc:PT X c (LT X.K Ξ (cW P mc)))(ha:PE X a (LE X.K Ξ (aR P ma)))(hb:PE X b (LE X.K Ξ (aR P mb))):PE X (.IfExp c a b pos) (LE X.K Ξ (aR P (.ite mc ma mb))) :=
 (Sn hc ha hb).imp λbA H Q aX=>by
  obtain⟨Z,g,ρ,s,R,h⟩:=aX;refine mO hP s R (.refl _ _) h λt g1 bC H1 e1 R1 h=>?_;cases t
  ·exact eA hP (s.ext e1) R1 e1 h λy g2 dH H2 v2 e2 R2 r2 h=>h dH H2 v2 (e1.trans e2) R2 r2
  ·exact eA hP (s.ext e1) R1 e1 h λy g2 dH H2 v2 e2 R2 r2 h=>h dH H2 v2 (e1.trans e2) R2 r2
theorem NC{es:List Expr}{ft:ME}{k:Nat}(h:PA X es (LA X.K Ξ (eK P ft))):PE X (.Tuple es k pos) (LE X.K Ξ (aR P (.prim .tup ft))) :=
 (Na h).imp λbA H Q aX=>by
  obtain⟨Z,g,ρ,s,R,h⟩:=aX;refine iU hP s R (.refl _ _) h λds g1 bC H1 vs e1 R1 r1 h=>?_;obtain⟨d',g',⟨hz,rfl,rfl⟩,q⟩:=h;exact⟨by rw[<- r1.length];exact j7 (aO hz (by decide)),λp hp=>(q.ext e1).tup R1 hp r1⟩
theorem ER{es:List Expr}{ft:ME}(h:PA X es (LA X.K Ξ (eK P ft))):PE X (.List es pos) (LE X.K Ξ (aR P (.prim .lst ft))) :=
 (EK h).imp λbA H Q aX=>by
  obtain⟨Z,g,ρ,s,R,h⟩:=aX;refine iU hP s R (.refl _ _) h λds g1 bC H1 vs e1 R1 r1 h=>?_;obtain⟨d',g',⟨hz,rfl,rfl⟩,q⟩:=h;exact⟨by rw[<- r1.length];exact j7 (aO hz (by decide)),λp hp=>(q.ext e1).new R1 hp r1⟩
theorem B7:PA X [] (LA X.K Ξ (eK P .nil)) :=
 (M6 (X:=X)).imp λbA H Q aX=>by
  obtain⟨Z,g,ρ,s,R,h⟩:=aX;exact h ρ H [] (.refl _ _) R .nil
theorem t6{es:List Expr}{ft:ME}(ha:PE X a (LE X.K Ξ (aR P ma)))(h:PA X es (LA X.K Ξ (eK P ft)))(hs:starEach (a::es) X.env=(false,eval a X.env)::starEach es X.env):PA X (a::es) (LA X.K Ξ (eK P (.cons ma ft))) :=
 (F8 ha h hs).imp λbA H Q aX=>by
  obtain⟨Z,g,ρ,s,R,h⟩:=aX;exact eA hP s R (.refl _ _) h λx g1 bC H1 v1 e1 R1 r1 h=>iU hP (s.ext e1) R1 e1 h λxs g2 dH H2 vs e2 R2 r2 h=>h dH H2 _ (e1.trans e2) R2 (.cons (r1.ext e2) r2)
theorem SO{p2:Pos}(ha:PE X a (LE X.K Ξ (aR P ma))):PE X (.Subscript a (.Slice none none none p2) pos) (LE X.K Ξ (aR P (.prim (.je false false) (.cons ma .nil)))) :=
 (zd zK ha Z7 Z7).imp λbA H Q aX=>by
  obtain⟨Z,g,ρ,s,R,h⟩:=aX;refine eA hP s R (.refl _ _) h λx g1 bC H1 v1 e1 R1 r1 h=>?_;obtain⟨d',g',⟨x',ex,h⟩,q⟩:=h;cases ex;exact⟨x,g1,bC,d',g',R1,r1,h,q.ext e1⟩
theorem SR{p2:Pos}(ha:PE X a (LE X.K Ξ (aR P ma)))(hb:PE X b (LE X.K Ξ (aR P mb))):PE X (.Subscript a (.Slice (some b) none none p2) pos) (LE X.K Ξ (aR P (.prim (.je true false) (.cons ma (.cons mb .nil))))) :=
 (zd zK ha (Fx hb) Z7).imp λbA H Q aX=>by
  obtain⟨Z,g,ρ,s,R,h⟩:=aX;refine eA hP s R (.refl _ _) h λx g1 bC H1 v1 e1 R1 r1 h=>eA hP (s.ext e1) R1 e1 h λy g2 dH H2 v2 e2 R2 r2 h=>?_;obtain⟨d',g',⟨x',i,ex,h⟩,q⟩:=h;cases ex;exact⟨i,r2.i3,x,g2,dH,d',g',R2,r1.ext e2,h,q.ext (e1.trans e2)⟩
theorem SQ{p2:Pos}(ha:PE X a (LE X.K Ξ (aR P ma)))(hb:PE X b (LE X.K Ξ (aR P mb))):PE X (.Subscript a (.Slice none (some b) none p2) pos) (LE X.K Ξ (aR P (.prim (.je false true) (.cons ma (.cons mb .nil))))) :=
 (zd zK ha Z7 (Fx hb)).imp λbA H Q aX=>by
  obtain⟨Z,g,ρ,s,R,h⟩:=aX;refine eA hP s R (.refl _ _) h λx g1 bC H1 v1 e1 R1 r1 h=>eA hP (s.ext e1) R1 e1 h λy g2 dH H2 v2 e2 R2 r2 h=>?_;obtain⟨d',g',⟨x',i,ex,h⟩,q⟩:=h;cases ex;exact⟨i,r2.i3,x,g2,dH,d',g',R2,r1.ext e2,h,q.ext (e1.trans e2)⟩
theorem NP(ha:PE X a (LE X.K Ξ (aR P ma)))(he:∀whole,isTrue a X.env whole=(do let v <- whole;standAt a.pos;holding [v] (truthy v))):PT X a (LT X.K Ξ (cW P (.dU ma))) :=
 (SA ha he).imp λbA H Q aX=>by
  obtain⟨Z,g,ρ,s,R,h⟩:=aX;refine eA hP s R (.refl _ _) h λx g1 bC H1 v1 e1 R1 r1 h=>?_;obtain⟨b,h1,h2⟩:=h;exact⟨b,Oc R1 r1 h1,h2 bC H1 e1 R1⟩
theorem NN(ha:PT X a (LT X.K Ξ (cW P ma))):PT X (.UnaryOp .Not a pos) (LT X.K Ξ (cW P (.cO ma))) :=
 (Nm ha).imp λbA H Q aX=>by
  obtain⟨Z,g,ρ,s,R,h⟩:=aX;exact mO hP s R (.refl _ _) h λt g1 bC H1 e1 R1 h=>h bC H1 e1 R1
theorem NR{rest:List Expr}(ha:PT X a (LT X.K Ξ (cW P ma)))(hb:PW X (.BoolOp .And (b::rest) pos) (LT X.K Ξ (cW P mb))):PW X (.BoolOp .And (a::b::rest) pos) (LT X.K Ξ (cW P (.cB ma mb))) :=
 (Nn ha hb).imp λbA H Q aX=>by
  obtain⟨Z,g,ρ,s,R,h⟩:=aX;refine mO hP s R (.refl _ _) h λt g1 bC H1 e1 R1 h=>?_;cases t
  ·exact h bC H1 e1 R1
  ·exact mO hP (s.ext e1) R1 e1 h λt g2 dH H2 e2 R2 h=>h dH H2 (e1.trans e2) R2
theorem Lv{rest:List Expr}(ha:PT X a (LT X.K Ξ (cW P ma)))(hb:PW X (.BoolOp .Or (b::rest) pos) (LT X.K Ξ (cW P mb))):PW X (.BoolOp .Or (a::b::rest) pos) (LT X.K Ξ (cW P (.jg ma mb))) :=
 (Le ha hb).imp λbA H Q aX=>by
  obtain⟨Z,g,ρ,s,R,h⟩:=aX;refine mO hP s R (.refl _ _) h λt g1 bC H1 e1 R1 h=>?_;cases t
  ·exact mO hP (s.ext e1) R1 e1 h λt g2 dH H2 e2 R2 h=>h dH H2 (e1.trans e2) R2
  ·exact h bC H1 e1 R1
theorem Wl:ka X [] (LT X.K Ξ (cW P .no)) :=
 (VN (X:=X)).imp λbA H Q aX=>by
  obtain⟨Z,g,ρ,s,R,h⟩:=aX;exact h ρ H (.refl _ _) R
theorem Nw{x:Str}{v:Value}{es:List Expr}{ft:ME}{q:Pos}(hv:(∃id,v=.builtin id)\/∃T,v=.type T)(hc:j9 X v (rN X.K p))(hg:Gl X x)(hm:X.mg x=none)(hb:bootBuiltins x=some v)(ha:PA X (e::es) (LA X.K Ξ (eK P ft)))(hn:x≠"__name__")(hd:(x==("__debug__":Str))=false)(cR:starEach (e::es) X.env=(false,eval e X.env)::starEach es X.env)(fm:(backTo pos (starEach es X.env)).any (·.1)=false):PE X (.Call (.Name x q) (e::es) [] pos) (LE X.K Ξ (aR P (.prim p ft))):=by
 have base:PE X (.Call (.Name x q) (e::es) [] pos) (vJ (rN X.K p) (LA X.K Ξ (eK P ft))):=by
  rcases hv with⟨id,rfl⟩|⟨T,rfl⟩
  ·exact S5 hc hg hm hb ha hn hd cR fm
  ·exact J9 hc hg hm hb ha hn hd cR fm
 refine base.imp λbA H Q aX=>?_;obtain⟨Z,g,ρ,s,R,h⟩:=aX;exact iU hP s R (.refl _ _) h λxs g1 bC H1 vs e1 R1 r1 h=>⟨xs,g1,bC,R1,r1,m6 (λd g' h=>h.ext e1) h⟩
theorem Wa{o:Expr}{es:List Expr}{mo ft:ME}{T:String}{name:Str}{id:String}{apos:Pos}(pa:PlainAttrs T)(slot:Slot T name id)(iq:typeOf (.builtin id)=pure (.type "method_descriptor"))(hm:lR X id (rM X.K p))(hk:∀{d:D} {v:V} {g:G} {ρ:List Addr} {H:Hp},Rl X.K ρ g H->d8 X.K ρ H d v->lz p d g->lV X.K T v H)(ho:PE X o (LE X.K Ξ (aR P mo)))(ha:PA X (e::es) (LA X.K Ξ (eK P ft)))(gX:attributeBase o name X.env (eval o X.env)=eval o X.env)(ow:((backTo pos (starEach (e::es) X.env)).all (λx=>!x.1)&&(backToKw pos (keywordEach [] X.env)).all (λx=>x.1.isSome)&&decide ((e::es).length+([]:List Keyword).length+(if([]:List Keyword).isEmpty then 0 else 1)<30))=true)(gW:(apos.endLine==pos.line)=true)(hs:starEach (e::es) X.env=(false,eval e X.env)::starEach es X.env)(fy:(backTo pos (starEach es X.env)).any (·.1)=false) :
  PE X (.Call (.Attribute o name apos) (e::es) [] pos) (LE X.K Ξ (aR P (.dM p mo ft))) :=
 (KY pa slot iq hm ho ha gX ow gW hs fy).imp λbA H Q aX=>by
  obtain⟨Z,g,ρ,s,R,h⟩:=aX;exact eA hP s R (.refl _ _) h λx g1 bC H1 v1 e1 R1 r1 h=>⟨hk R1 r1 h.1,iU hP (s.ext e1) R1 e1 h.2 λxs g2 dH H2 ws e2 R2 r2 h =>
   ⟨x,xs,g2,dH,R2,r1.ext e2,r2,m6 (λd g' h=>h.ext (e1.trans e2)) h⟩⟩
theorem SM{o:Expr}{mo:ME}{T:String}{name:Str}{id:String}{apos:Pos}(pa:PlainAttrs T)(slot:Slot T name id)(iq:typeOf (.builtin id)=pure (.type "method_descriptor"))(hm:lR X id (rM X.K p))(hk:∀{d:D} {v:V} {g:G} {ρ:List Addr} {H:Hp},Rl X.K ρ g H->d8 X.K ρ H d v->lz p d g->lV X.K T v H)(ho:PE X o (LE X.K Ξ (aR P mo)))(gX:attributeBase o name X.env (eval o X.env)=eval o X.env)(gW:(apos.endLine==pos.line)=true) :
  PE X (.Call (.Attribute o name apos) [] [] pos) (LE X.K Ξ (aR P (.dM p mo .nil))) :=
 (MV pa slot iq hm ho gX gW).imp λbA H Q aX=>by
  obtain⟨Z,g,ρ,s,R,h⟩:=aX;exact eA hP s R (.refl _ _) h λx g1 bC H1 v1 e1 R1 r1 h=>⟨hk R1 r1 h.1,x,[],g1,bC,R1,r1,.nil,m6 (λd g' h=>h.ext e1) h.2⟩
theorem SI{q p2 iD:Pos}(hc:X.calm=true)(ha:PE X a (LE X.K Ξ (aR P ma)))(lG:Gl X "list")(mG:X.mg "list"=none)(hg:Gl X "range")(hm:X.mg "range"=none)(hs:starEach [a] X.env=[(false,eval a X.env)]) :
  PE X (.Call (.Name "list" p2) [.Call (.Name "range" q) [a] [] pos] [] iD) (LE X.K Ξ (aR P (.prim .ik (.cons ma .nil)))) :=
 (J9 (W6 hc) lG mG (by first|exact dW|decide +kernel) (F8 (Uk hg hm (t6 hP ha (B7 hP) (by rw[hs];rfl)) hs) M6)).imp λbA H Q aX=>by
  obtain⟨Z,g,ρ,s,R,h⟩:=aX;refine iU hP s R (.refl _ _) h λxs g1 bC H1 vs e1 R1 r1 h=>?_;obtain⟨d',g',⟨j,rfl,h1,h2,rfl,rfl⟩,q⟩:=h;obtain⟨v,rfl,rv⟩:=r1.one;obtain rfl:=rv.i3;refine⟨j,rfl,λq' hq=>⟨q',0,j,rfl,l0,⟨by omega,by omega,h1,by omega,by omega⟩,λp hp=>?_⟩⟩;rw[show(j-0).toNat=j.toNat by omega];exact(q.ext (e1.trans (n5 hq))).new (R1.grow hq) hp (b8.kF 0 _)
theorem SJ{q p2 iD:Pos}(hc:X.calm=true)(ha:PE X a (LE X.K Ξ (aR P ma)))(hb:PE X b (LE X.K Ξ (aR P mb)))(lG:Gl X "list")(mG:X.mg "list"=none)(hg:Gl X "range")(hm:X.mg "range"=none)(hs:starEach [a,b] X.env=[(false,eval a X.env),(false,eval b X.env)])(gA:starEach [b] X.env=[(false,eval b X.env)]) :
  PE X (.Call (.Name "list" p2) [.Call (.Name "range" q) [a,b] [] pos] [] iD) (LE X.K Ξ (aR P (.prim .jk (.cons ma (.cons mb .nil))))) :=
 (J9 (W6 hc) lG mG (by first|exact dW|decide +kernel) (F8 (Ul hg hm (t6 hP ha (t6 hP hb (B7 hP) (by rw[gA];rfl)) (by rw[hs,gA])) hs gA) M6)).imp λbA H Q aX=>by
  obtain⟨Z,g,ρ,s,R,h⟩:=aX;refine iU hP s R (.refl _ _) h λxs g1 bC H1 vs e1 R1 r1 h=>?_;obtain⟨d',g',⟨i,j,rfl,hb,rfl,rfl⟩,q⟩:=h;obtain⟨v,w,rfl,rv,eZ⟩:=r1.two;obtain rfl:=rv.i3;obtain rfl:=eZ.i3;exact⟨i,j,rfl,λq' hq=>⟨q',i,j,rfl,l0,hb,λp hp=>(q.ext (e1.trans (n5 hq))).new (R1.grow hq) hp (b8.kF i _)⟩⟩
theorem Wc{q p2 iD:Pos}(hc:X.calm=true)(ha:PE X a (LE X.K Ξ (aR P ma)))(lG:Gl X "sorted")(mG:X.mg "sorted"=none)(hg:Gl X "set")(hm:X.mg "set"=none)(hs:starEach [a] X.env=[(false,eval a X.env)]) :
  PE X (.Call (.Name "sorted" p2) [.Call (.Name "set" q) [a] [] pos] [] iD) (LE X.K Ξ (aR P (.prim .sset (.cons ma .nil)))) :=
 (S5 (O3 hc) lG mG (by first|exact nL|decide +kernel) (F8 (J9 (Z0 hc) hg hm (by first|exact tD|decide +kernel) (t6 hP ha (B7 hP) (by rw[hs];rfl)) (by decide) (by decide) (by rw[hs];rfl) rfl) M6)).imp λbA H Q aX=>by
  obtain⟨Z,g,ρ,s,R,h⟩:=aX;refine iU hP s R (.refl _ _) h λxs g1 bC H1 vs e1 R1 r1 h=>?_;obtain⟨d',g',⟨i,ns,rfl,hl,hz,rfl,rfl⟩,q⟩:=h;obtain⟨v,rfl,rv⟩:=r1.one;obtain⟨a',rfl,ra⟩:=rv.i9;obtain⟨ws,hq,rs⟩:=R1.items hl ra;obtain rfl:=rs.ints;refine⟨_,ns,rfl,hq,hz,λq' lD=>⟨q',ns,rfl,l0,hz,λp hp=>?_⟩⟩;exact(q.ext (e1.trans (n5 lD))).new (R1.grow lD) hp (b8.ofInts _)
theorem VZ{q p2 iD:Pos}(hc:X.calm=true)(ha:PE X a (LE X.K Ξ (aR P ma)))(lG:Gl X "len")(mG:X.mg "len"=none)(hg:Gl X "set")(hm:X.mg "set"=none)(hs:starEach [a] X.env=[(false,eval a X.env)]) :
  PE X (.Call (.Name "len" p2) [.Call (.Name "set" q) [a] [] pos] [] iD) (LE X.K Ξ (aR P (.prim .pO (.cons ma .nil)))) :=
 (S5 Rv lG mG PySem.boot_len (F8 (J9 (Z0 hc) hg hm (by first|exact tD|decide +kernel) (t6 hP ha (B7 hP) (by rw[hs];rfl)) (by decide) (by decide) (by rw[hs];rfl) rfl) M6)).imp λbA H Q aX=>by
  obtain⟨Z,g,ρ,s,R,h⟩:=aX;refine iU hP s R (.refl _ _) h λxs g1 bC H1 vs e1 R1 r1 h=>?_;obtain⟨d',g',⟨i,ns,rfl,hl,hz,rfl,rfl⟩,q⟩:=h;obtain⟨v,rfl,rv⟩:=r1.one;obtain⟨a',rfl,ra⟩:=rv.i9;obtain⟨ws,hq,rs⟩:=R1.items hl ra;obtain rfl:=rs.ints;refine⟨_,ns,rfl,hq,hz,λq' lD=>⟨q',_,rfl,l0,?_⟩⟩;exact(q.ext (e1.trans (n5 lD))).now (R1.grow lD) (.int _)
theorem Wb{i:Int}{j:Nat}{q:Pos}(lH:PySem.W.kdsCode X.K X.env.code=true):PE X (.Set [.Constant (.int i) j q] 0 pos) (LE X.K Ξ (aR P (.prim (.jR i) .nil))) :=
 (VE lH).imp λbA H Q aX=>by
  obtain⟨Z,g,ρ,s,R,h⟩:=aX;obtain⟨d',g',⟨_,rfl,rfl⟩,q⟩:=h;exact λp hp=>q (ρ++[p]) _ _ (J1 hp) (R.new hp (o:=.set (λk=>decide (k=i)) 1) (u:=.set (λk=>decide (k=i)) 1) ⟨rfl,rfl⟩) (.ref (R.w9 p))
theorem Ny{f:Str}(ha:PE X a (LE X.K Ξ (aR P ma)))(hb:attributeBase a f X.env (eval a X.env)=eval a X.env):PE X (.Attribute a f pos) (LE X.K Ξ (aR P (.prim (.fld f) (.cons ma .nil)))) :=
 (MW ha hb).imp λbA H Q aX=>by
  obtain⟨Z,g,ρ,s,R,h⟩:=aX;refine eA hP s R (.refl _ _) h λx g1 bC H1 v1 e1 R1 r1 h=>?_;obtain⟨d',g',⟨i,c,fs,ex,hi,hf,rfl⟩,q⟩:=h;cases ex;obtain⟨a',rfl,ra⟩:=r1.i9;obtain⟨C,dx,vs,hH,_,hC,rk,na⟩:=R1.ins hi ra;have lk:=rk.look f;rw[hf] at lk;obtain⟨v,hv,rv⟩:=lk.some;exact⟨a',C,dx,vs,v,rfl,hH,hC,na _ (aI hf),hv,q bC H1 v e1 R1 rv⟩
end
section
variable{X:Cx}{Ξ:fR}{P:eG}{a b c:Expr}{ma mb mc:ME}{pos:Pos}
theorem ND{i:Nat}{x:Str}(hN:X.N[i]?=some x)(hv:sV X.env.scope x)(hd:(x==("__debug__":Str))=false)(kq:(x==("__classdict__":Str))=false):PE X (.Name x pos) (LE X.K Ξ (aR P (.var i))) :=
 (yq hN hv hd kq).imp λbA H Q aX=>by
  obtain⟨Z,g,ρ,s,R,h⟩:=aX;obtain⟨d,e,h⟩:=h;obtain⟨v,h1,h2⟩:=s.val _ _ e;exact⟨v,h1,h.now R h2⟩
theorem M4{e:Expr}{d:D}{v:V}(h:PE X e (tC v))(r:∀ρ H,d8 X.K ρ H d v):PE X e (LE X.K Ξ (aR P (.lit d))) :=
 h.imp λbA H Q aX=>by
  obtain⟨Z,g,ρ,s,R,h⟩:=aX;exact LQ.now h R (r ρ H)
theorem VW:PE X (.Dict [] [] pos) (LE X.K Ξ (aR P (.prim .U5 .nil))) :=
 (Sm (X:=X)).imp λbA H Q ⟨Z,g,ρ,s,R,h⟩ p hp=>by
  obtain⟨d',g',⟨_,rfl,rfl⟩,q⟩:=h;exact q (ρ++[p]) _ _ (J1 hp) (R.new hp (o:=.dP []) (u:=.dK []) i4.nil) (.ref (R.w9 p))
end
end M

namespace L2
open PySem PySem.Spec PyProof.Rows
section
variable{X:Cx}{m:Str}{pos apos:Pos}{e o:Expr}{es:List Expr}{ta:TE}{t:TA}
end
end L2
namespace M
open PySem L2 PySem.Spec PyProof.Rows
inductive Z4(K:PySem.W.Frag):List D->List (Str×V)->Prop
 |nil:Z4 K [] []
 |cons {x:Str} {d:D} {v:V} {ds:List D} {vs:List (Str×V)} (h:∀ρ H,d8 K ρ H d v) (r:Z4 K ds vs):Z4 K (.tup [.str x,d]::ds) ((x,v)::vs)
theorem Z4.look{K:PySem.W.Frag}{ρ:List Addr}{H:Hp}{ds vs}(x:Str)(h:Z4 K ds vs):V7 K ρ H (J7 ds x) (vs.lookup x):=by
 induction h with
 |nil=>trivial
 |cons h r ih =>
  rename_i y d v ds vs;unfold J7;rw[bW];by_cases e:x=y
  ·rw[aG e,show(x==y)=true from by simp[e]];exact h ρ H
  ·rw[aE e,show(x==y)=false from by simpa using e];exact ih
def uq(X:Cx)(x:Str)(kvs:List D):Prop:=∃A vs,X.mg x=some (.ref A)/\sJ X.K X.w.params A vs/\Z4 X.K kvs vs
def uy(neg:Bool):Pr:=if neg then .rW else .BD
theorem Fh{neg:Bool}:PR (uy neg)=Ab neg:=by cases neg<;>rfl
theorem Uy(a b c:Str):a++b++c=a++(b++c):=by
 cases a;cases b;cases c;show Str.mk _=Str.mk _;exact fT Str.mk (GH ..)
theorem Wk(x:Str):x++Str.empty=x:=by cases x;show Str.mk _=_;simp[Str.empty]
theorem OT(x:Str):Str.empty++x=x:=by cases x;show Str.mk _=_;simp[Str.empty]
section
variable{X:Cx}{Ξ:fR}{P:eG}(hP:i5 P){a b c:Expr}{ma mb mc:ME}{pos:Pos}
include hP
theorem Nz{x:Str}{p:Pos}{kvs:List D}{neg:Bool}(hg:Gl X x)(hd:(x==("__debug__":Str))=false)(hG:uq X x kvs)(ha:PE X a (LE X.K Ξ (aR P ma)))(hm:behindInMarks (if neg then .NotIn else .In) (.Name x p)=false) :
  PE X (.Compare a [if neg then .NotIn else .In] [.Name x p] pos) (LE X.K Ξ (aR P (.prim (uy neg) (.cons (.lit (.tup kvs)) (.cons ma .nil))))):=by
 obtain⟨A,vs,hmg,hk,gr⟩:=hG;refine(Fs (EI (kvs:=vs) neg) ha (Q1 (v:=.ref A) hg hmg rfl hd) hm).imp λbA H Q aX=>?_;obtain⟨Z,g,ρ,s,R,h⟩:=aX;refine eA hP s R (.refl _ _) h λd g1 bC H1 v1 e1 R1 r1 h=>?_;obtain⟨d',g',h,q⟩:=h;rw[Fh] at h;obtain⟨gS,z,ex,rfl,rfl⟩:=h;cases ex;obtain rfl:=r1.A1;refine⟨A,z,rfl,hk,rfl,?_⟩;rw[<- (gr.look (ρ:=bC) (H:=H1) z).isSome];exact q bC H1 _ e1 R1 (.bl _)
theorem NM{x:Str}{p:Pos}{kvs:List D}{neg:Bool}(hg:Gl X x)(hd:(x==("__debug__":Str))=false)(hG:uq X x kvs)(ha:PE X a (LE X.K Ξ (aR P ma)))(hm:behindInMarks (if neg then .NotIn else .In) (.Name x p)=false) :
  PT X (.Compare a [if neg then .NotIn else .In] [.Name x p] pos) (LT X.K Ξ (cW P (.dU (.prim (uy neg) (.cons (.lit (.tup kvs)) (.cons ma .nil)))))):=by
 obtain⟨A,vs,hmg,hk,gr⟩:=hG;refine(Fy (EI (kvs:=vs) neg) ha (Q1 (v:=.ref A) hg hmg rfl hd) hm).imp λbA H Q aX=>?_;obtain⟨Z,g,ρ,s,R,h⟩:=aX;refine eA hP s R (.refl _ _) h λd g1 bC H1 v1 e1 R1 r1 h=>?_;obtain⟨d',g',h,t,ht,q⟩:=h;rw[Fh] at h;obtain⟨gS,z,ex,rfl,rfl⟩:=h;cases ex;obtain rfl:=r1.A1;refine⟨A,z,rfl,hk,rfl,t,?_,q bC H1 e1 R1⟩;rw[<- (gr.look (ρ:=bC) (H:=H1) z).isSome];rcases ht with⟨z,_⟩|z|⟨i,z,_⟩|⟨l,z,_⟩|⟨a,l,z,_⟩<;>cases z
 rfl
theorem VY{x:Str}{p:Pos}{kvs:List D}(hg:Gl X x)(hd:(x==("__debug__":Str))=false)(hG:uq X x kvs)(ha:PE X a (LE X.K Ξ (aR P ma)))(hs:uT a):PE X (.Subscript (.Name x p) a pos) (LE X.K Ξ (aR P (.prim .lN (.cons (.lit (.tup kvs)) (.cons ma .nil))))):=by
 obtain⟨A,vs,hmg,hk,gr⟩:=hG;refine(zI (Kt (kvs:=vs)) (Q1 (v:=.ref A) hg hmg rfl hd) ha hs).imp λbA H Q aX=>?_;obtain⟨Z,g,ρ,s,R,h⟩:=aX;refine eA hP s R (.refl _ _) h λd g1 bC H1 v1 e1 R1 r1 h=>?_;obtain⟨d',g',⟨gS,z,ex,hz,rfl⟩,q⟩:=h;cases ex;obtain rfl:=r1.A1;have lk:=gr.look (ρ:=bC) (H:=H1) z;rw[hz] at lk;obtain⟨w,hw,lk⟩:=lk.some;exact⟨A,z,w,rfl,hk,rfl,hw,q bC H1 _ e1 R1 lk⟩
theorem Lo(ha:PE X a (LE X.K Ξ (aR P ma))):PE X (.FormattedValue a (-1) none pos) (LE X.K Ξ (aR P (.prim .fv (.cons ma .nil)))) :=
 (KZ ha).imp λbA H Q aX=>by
  obtain⟨Z,g,ρ,s,R,h⟩:=aX;refine eA hP s R (.refl _ _) h λd g1 bC H1 v1 e1 R1 r1 h=>?_;obtain⟨d',g',⟨rfl,h⟩,q⟩:=h;rcases h with⟨i,ex,h1,rfl⟩|⟨z,ex,h1,rfl⟩
  ·cases ex;exact .inl ⟨i,r1.i3,h1,q bC H1 _ e1 R1 (.str _)⟩
  ·cases ex;exact .inr ⟨z,r1.A1,j7 (by omega),q bC H1 _ e1 R1 (.str _)⟩
omit hP in
inductive kN(X:Cx)(Ξ:fR)(P:eG):List Expr->ME->List TE->Prop
 |nil:kN X Ξ P [] .nil []
 |lit {x:Str} {j:Nat} {p:Pos} {es:List Expr} {ms:ME} {ts:List TE} (hx:x.length<=2000) (r:kN X Ξ P es ms ts):kN X Ξ P (.Constant (.str x) j p::es) (.cons (.lit (.str x)) ms) (LE X.K Ξ (aR P (.lit (.str x)))::ts)
 |val {e:Expr} {m:ME} {p:Pos} {es:List Expr} {ms:ME} {ts:List TE} (he:PE X e (LE X.K Ξ (aR P m))) (r:kN X Ξ P es ms ts):kN X Ξ P (.FormattedValue e (-1) none p::es) (.cons (.prim .fv (.cons m .nil)) ms) (LE X.K Ξ (aR P (.prim .fv (.cons m .nil)))::ts)
theorem kN.Hq{es ms ts}(h:kN X Ξ P es ms ts):pY X es ts:=by
 induction h with
 |nil=>exact .nil
 |lit hx r ih=>exact .cons (M4 EL λ_ _=>.str _) ih
 |val he r ih=>exact .cons (Lo hP he) ih
theorem kN.join{bA:L2.St}{Q:Str->Hp->Prop}{es ms ts}(hf:kN X Ξ P es ms ts):∀{Z:S} {g:G} {ρ:List Addr} {H:Hp} {acc:Str},acc.length+2000*es.length<=100000->k7 X.K ρ H Z bA->Rl X.K ρ g H ->
  eK P ms Z g (λds g1=>∃x,O2 ds=some x/\∀bq H',Ext ρ H bq H'->Rl X.K bq g1 H'->Q (acc++x) H') (LX X.K ρ H Ξ)->uG ts bA H acc (λout H1=>out.length<=sizeLine/\Q out H1):=by
 have tl:∀{acc y:Str} {ρ:List Addr} {H:Hp} {bC:List Addr} {H1:Hp} {ds:List D} {g1:G},Ext ρ H bC H1->(∃x,O2 (.str y::ds)=some x/\∀bq H',Ext ρ H bq H'->Rl X.K bq g1 H'->Q (acc++x) H')->∃x,O2 ds=some x/\∀bq H',Ext bC H1 bq H'->Rl X.K bq g1 H'->Q (acc++y++x) H':=by
  intro acc y ρ H bC H1 ds g1 e1 h;obtain⟨x,hx,h⟩:=h;simp only[O2] at hx;cases hj:O2 ds with
  |none=>rw[hj] at hx;cases hx
  |some x' =>
   rw[hj] at hx;cases hx;refine⟨x',rfl,λbq H' e' R'=>?_⟩;rw[Uy];exact h bq H' (e1.trans e') R'
 induction hf with
 |nil =>
  intro Z g ρ H acc ha s R h;obtain⟨x,hx,h⟩:=h;cases hx;rw[Wk] at h;exact⟨j7 (by simpa using ha),h ρ H (.refl _ _) R⟩
 |lit hx r ih =>
  rename_i y j p es ms ts;intro Z g ρ H acc ha s R h;refine⟨Z,g,ρ,s,R,?_⟩;intro bC H1 v1 e1 R1 r1;obtain rfl:=r1.A1;have hl:(acc++y).length<=acc.length+2000:=by rw[strLen_append];omega
  simp only[List.length_cons] at ha;exact⟨y,rfl,j7 (by omega),ih (by omega) (s.ext e1) R1 (n8 hP _ _ _ _ _ _ _ (λds g1 h=>tl e1 h) (λ_ _ z=>LX.ext e1 z) h)⟩
 |val he r ih =>
  rename_i e m p es ms ts;intro Z g ρ H acc ha s R h;refine⟨Z,g,ρ,s,R,?_⟩;simp only[List.length_cons] at ha;refine b0 hP m _ _ _ _ _ _ (λd g1 h=>?_) (λ_ _ z=>z) h;obtain⟨d',g',⟨rfl,h⟩,q⟩:=h;have hy:∃y,d'=.str y/\y.length<=2000:=by
   rcases h with⟨i,ex,h1,rfl⟩|⟨z,ex,h1,rfl⟩
   ·exact⟨_,rfl,by rw[PySem.ofString_length];have:=int_text_length_le (k:=1920) (by decide) h1;omega⟩
   ·exact⟨z,rfl,h1⟩
  obtain⟨y,rfl,hy⟩:=hy;refine⟨_,_,⟨rfl,h⟩,λbC H1 v1 e1 R1 r1=>?_⟩;obtain rfl:=r1.A1;have hl:(acc++y).length<=acc.length+2000:=by rw[strLen_append];omega
  exact⟨y,rfl,j7 (by omega),ih (by omega) (s.ext e1) R1 (n8 hP _ _ _ _ _ _ _ (λds g1 h=>tl e1 h) (λ_ _ z=>LX.ext e1 z) q)⟩
theorem VX{ki kh:Expr}{rest:List Expr}{ms:ME}{ts:List TE}(h:kN X Ξ P (ki::kh::rest) ms ts)(hl:(ki::kh::rest).length<=40):PE X (.JoinedStr (ki::kh::rest) pos) (LE X.K Ξ (aR P (.prim .kr ms))) :=
 (VC (h.Hq hP)).imp λbA H Q aX=>by
  obtain⟨Z,g,ρ,s,R,hw⟩:=aX;refine kN.join hP h (Q:=λout H1=>Q (.str out) H1) (acc:=Str.empty) ?_ s R (n8 hP ms _ _ _ _ _ _ (λds g1 hw=>?_) (λ_ _ z=>z) hw)
  ·have:Str.empty.length=0:=rfl;omega
  ·obtain⟨d',g',⟨x,hx,rfl,rfl⟩,q⟩:=hw;refine⟨x,hx,λbq H' e' R'=>?_⟩;rw[OT];exact q bq H' _ e' R' (.str _)
omit hP in
def mS(ex:List Str)(K:PySem.W.Frag)(n:Nat)(t:List D->G->KD->KX->Prop):Sp:=λvs H Q E=>vs.length=n/\∃ds g ρ,b8 K ρ H ds vs/\Rl K ρ g H/\t ds g (LQ K ρ H Q) (LX K ρ H (ex,E))
omit hP in
def lS(X:Cx)(P:eG)(ex:List Str)(k f:Nat)(fa:Addr)(fd:FuncData)(ps:List Str):Prop :=
 gg X.prog X.w X.K X.mg X.base (gI X.prog X.w) k fa fd ps (mS ex X.K ps.length (P f))/\Binds X.K fd ps []/\∀ds g Q E,P f ds g Q E->ds.length=ps.length
theorem uF{k f:Nat}{fa:Addr}{fd:FuncData}{ps:List Str}(F:lS X P Ξ.1 k f fa fd ps){ρ eY:List Addr}{H H0:Hp}{g:G}{xs:List D}{vs:List V}{Q0:KD}{Q:VK}(e0:Ext eY H0 ρ H)(R:Rl X.K ρ g H)(r:b8 X.K ρ H xs vs)(h:P f xs g Q0 (LX X.K eY H0 Ξ))(k:∀d g',Q0 d g'->LQ X.K ρ H Q d g'):mS Ξ.1 X.K ps.length (P f) (vs++[]) H Q Ξ.2:=by
 rw[gF];exact⟨by rw[<- r.length];exact F.2.2 _ _ _ _ h,xs,g,ρ,r,R,hP _ _ _ _ _ _ _ k (λ_ _ z=>LX.ext e0 z) h⟩
theorem VU{k f:Nat}{x:Str}{fa:Addr}{fd:FuncData}{ps:List Str}{es:List Expr}{e:Expr}{ft:ME}{p:Pos}(hx:Passes (gI X.prog X.w) X Ξ.2)(F:lS X P Ξ.1 k f fa fd ps)(hr:m9 k X.A)(hg:Gl X x)(hm:X.mg x=some (.ref fa))(hk:PySem.W.keepIn X.K (.ref fa)=true)(ha:PA X (e::es) (LA X.K Ξ (eK P ft)))(hd:(x==("__debug__":Str))=false)(cR:starEach (e::es) X.env=(false,eval e X.env)::starEach es X.env)(fm:(backTo pos (starEach es X.env)).any (·.1)=false):PE X (.Call (.Name x p) (e::es) [] pos) (LE X.K Ξ (aR P (.call f ft))) :=
 (VA F.1 hr hg hm hk F.2.1 .nil hx ha hd cR fm).imp λbA H Q aX=>by
  obtain⟨Z,g,ρ,s,R,h⟩:=aX;exact iU hP s R (.refl _ _) h λxs g1 bC H1 vs e1 R1 r1 h=>uF hP F e1 R1 r1 h λd g' h=>h.ext e1
theorem SG{k f:Nat}{x:Str}{fa:Addr}{fd:FuncData}{ps:List Str}{p:Pos}(hx:Passes (gI X.prog X.w) X Ξ.2)(F:lS X P Ξ.1 k f fa fd ps)(hr:m9 k X.A)(hg:Gl X x)(hm:X.mg x=some (.ref fa))(hk:PySem.W.keepIn X.K (.ref fa)=true)(hd:(x==("__debug__":Str))=false):PE X (.Call (.Name x p) [] [] pos) (LE X.K Ξ (aR P (.call f .nil))) :=
 (Sj F.1 hr hg hm hk F.2.1 .nil hx hd).imp λbA H Q aX=>by
  obtain⟨Z,g,ρ,s,R,h⟩:=aX;exact uF hP F (.refl _ _) R .nil h λd g' h=>h
omit hP in
inductive F4(X:Cx)(P:eG)(ex:List Str):List Expr->List Nat->List Addr->Prop
 |nil:F4 X P ex [] [] []
 |cons {x:Str} {p:Pos} {k f:Nat} {fa:Addr} {fd:FuncData} {ps:List Str} {ns:List Expr} {fs:List Nat} {iM:List Addr} (hg:Gl X x) (hm:X.mg x=some (.ref fa)) (hk:PySem.W.keepIn X.K (.ref fa)=true) (F:lS X P ex k f fa fd ps) (hr:m9 k X.A) (hd:(x==("__debug__":Str))=false) (r:F4 X P ex ns fs iM):F4 X P ex (.Name x p::ns) (f::fs) (fa::iM)
omit hP in
theorem F4.pa{ex:List Str}{ns:List Expr}{fs:List Nat}{iM:List Addr}(h:F4 X P ex ns fs iM):PA X ns (λ_ H Q=>Q (iM.map V.ref) H):=by
 induction h with
 |nil=>exact M6
 |cons hg hm hk F hr hd r ih=>exact(F8 (Q1 (v:=.ref _) hg hm rfl hd) ih).imp λ_ _ _ q=>q
omit hP in
theorem F4.get{ex:List Str}{ns:List Expr}{fs:List Nat}{iM:List Addr}(h:F4 X P ex ns fs iM):∀{i f:Nat},fs[i]?=some f->∃fa k fd ps,(iM.map V.ref)[i]?=some (.ref fa)/\PySem.W.keepIn X.K (.ref fa)=true/\lS X P ex k f fa fd ps/\m9 k X.A:=by
 induction h with
 |nil=>intro i f e;cases e
 |cons hg hm hk F hr hd r ih =>
  intro i f e;cases i with
  |zero=>cases e;exact⟨_,_,_,_,rfl,hk,F,hr⟩
  |succ i=>exact ih e
omit hP in
theorem F4.len{ex:List Str}{ns:List Expr}{fs:List Nat}{iM:List Addr}(h:F4 X P ex ns fs iM):(iM.map V.ref).length=fs.length:=by
 induction h with
 |nil=>rfl
 |cons _ _ _ _ _ _ _ ih=>simp only[List.map_cons,List.length_cons,ih]
theorem FD{ns:List Expr}{fs:List Nat}{iM:List Addr}{i:Nat}{k:Int}{e b:Expr}{es:List Expr}{ft:ME}{lp sp:Pos}{tb:TE}(hx:Passes (gI X.prog X.w) X Ξ.2)(S:F4 X P Ξ.1 ns fs iM)(hz:fs.length<=1000)(hb:PE X b tb)(ht:∀Z H Q n,Z[i]?=some (some (V.int n))->Q (.int (n-k)) H->tb Z H Q)(hs:uT b)(ha:PA X (e::es) (LA X.K Ξ (eK P ft)))(cR:starEach (e::es) X.env=(false,eval e X.env)::starEach es X.env)(fm:(backTo pos (starEach es X.env)).any (·.1)=false):PE X (.Call (.Subscript (.List ns lp) b sp) (e::es) [] pos) (LE X.K Ξ (aR P (.iB fs i k ft))):=by
 intro pins s bA H Q I h;obtain⟨Z,g,ρ,sr,R,n,f,hi,hf,h⟩:=h;obtain⟨v,hv,rv⟩:=sr.val _ _ hi;obtain rfl:=rv.i3;obtain⟨j,hj,Ic⟩:=ag.mp hf;obtain⟨fa,k',fd,ps,g1,g2,F,hr⟩:=S.get Ic;show wpAny _ _ (eval (.Subscript (.List ns lp) b sp) X.env >>= λf=>callWith pos f [] (backTo pos (starEach (e::es) X.env)) (backToKw pos (keywordEach [] X.env))) _ _ s;refine aa (bS (zI Fl (EK S.pa) hb hs pins s bA H (λv H1=>v=.ref fa/\∃p,H p=none/\H1=upd H p (.lst (iM.map V.ref))) I ⟨by rw[S.len];exact aO hz (by decide),λp hp=>ht bA _ _ n hv ⟨p,_,_,_,rfl,rfl,Or.inl (.inl l0),?_,rfl,p,hp,rfl⟩⟩) λu s1 aX=>?_)
 ·unfold fB;rw[S.len,hj];exact g1
 ·obtain⟨v,H1,I1,rv,rfl,p,hp,rfl⟩:=aX;obtain rfl:u=Value.ref fa:=rv;refine iZ (h₀:=X.base) I1.ok.mod.lA g2 (bS (ha pos pins s1 bA _ _ I1 (iU hP (sr.ext (n5 hp)) (R.grow hp) (n5 hp) h λxs g2 dH H2 vs e2 R2 r2 h=>uF hP F ((n5 hp).trans e2) R2 r2 h λd g' h=>h.ext ((n5 hp).trans e2))) λus s2 HI=>?_) cR fm;obtain⟨vs,H2,I2,r2,q⟩:=HI;exact⟨I2.fu,yw F.1 hr F.2.1 .nil hx I2 r2 q⟩
theorem Fo{c:Str}{f k:Nat}{C fa:Addr}{fd:FuncData}{ps:List Str}(F:lS X P Ξ.1 k f fa fd ps)(hC:m5 X.K c C)(hc:iY X.K C){ρ eY:List Addr}{H H0:Hp}{g1:G}{xs:List D}{vs:List V}{Q:VK}(e0:Ext eY H0 ρ H)(R:Rl X.K ρ g1 H)(r:b8 X.K ρ H xs vs)(h:P f (.ref g1.length::xs) (g1++[.ins c []]) (λd g2=>d=.bw/\LQ X.K eY H0 Q (.ref g1.length) g2) (LX X.K eY H0 Ξ)):∀x dx,H x=none->H dx=none->dx≠x->mS Ξ.1 X.K ps.length (P f) (.ref x::(vs++[])) (upd (upd H dx (.own x)) x (.ins C dx [])) (λv H2=>v=.bw/\Q (.ref x) H2) Ξ.2:=by
 intro x dx hx Bu dO;have Bh:upd H dx (.own x) x=none:=by rw[f9 (bR dO)];exact hx
 have R2:=R.grow (o:=.own x) Bu;have e2:Ext ρ H ρ (upd H dx (.own x)):=n5 Bu;have R3:=R2.new (o:=.ins c []) (u:=.ins C dx []) Bh ⟨hC,hc,.nil,λx hx=>absurd hx (by simp)⟩;have e3:Ext ρ (upd H dx (.own x)) (ρ++[x]) (upd (upd H dx (.own x)) x (.ins C dx [])):=J1 Bh;have:=uF hP F (e0.trans (e2.trans e3)) R3 (.cons (.ref (R.w9 x)) (r.ext (e2.trans e3))) h (Q:=λv H2=>v=.bw/\Q (.ref x) H2) λd g' q bq H' v e' R' r'=>by
  obtain⟨rfl,q⟩:=q;exact⟨r'.uL,q bq H' _ (e0.trans (e2.trans (e3.trans e'))) R' (.ref (e'.get (R.w9 x)))⟩
 exact this
theorem V'{k f:Nat}{x:Str}{C fa:Addr}{fd:FuncData}{ps:List Str}{es:List Expr}{e:Expr}{ft:ME}{p:Pos}(hx:Passes (gI X.prog X.w) X Ξ.2)(F:lS X P Ξ.1 k f fa fd ps)(M:Mk X.K C fa)(hC:m5 X.K x C)(hc:iY X.K C)(hr:m9 (k+1) X.A)(hg:Gl X x)(hm:X.mg x=some (.ref C))(ha:PA X (e::es) (LA X.K Ξ (eK P ft)))(hd:(x==("__debug__":Str))=false)(cR:starEach (e::es) X.env=(false,eval e X.env)::starEach es X.env)(fm:(backTo pos (starEach es X.env)).any (·.1)=false):PE X (.Call (.Name x p) (e::es) [] pos) (LE X.K Ξ (aR P (.make x f ft))) :=
 (VD M F.1 hr hg hm F.2.1 .nil hx ha hd cR fm).imp λbA H Q aX=>by
  obtain⟨Z,g,ρ,s,R,h⟩:=aX;exact iU hP s R (.refl _ _) h λxs g1 bC H1 vs e1 R1 r1 h=>Fo hP F hC hc e1 R1 r1 h
theorem SK{k f:Nat}{x:Str}{C fa:Addr}{fd:FuncData}{ps:List Str}{p:Pos}(hx:Passes (gI X.prog X.w) X Ξ.2)(F:lS X P Ξ.1 k f fa fd ps)(M:Mk X.K C fa)(hC:m5 X.K x C)(hc:iY X.K C)(hr:m9 (k+1) X.A)(hg:Gl X x)(hm:X.mg x=some (.ref C))(hd:(x==("__debug__":Str))=false):PE X (.Call (.Name x p) [] [] pos) (LE X.K Ξ (aR P (.make x f .nil))) :=
 (So M F.1 hr hg hm F.2.1 .nil hx hd).imp λbA H Q aX=>by
  obtain⟨Z,g,ρ,s,R,h⟩:=aX;exact Fo hP F hC hc (.refl _ _) R .nil h
end
end M

namespace M
open PySem L2 PySem.Spec PyProof.Rows
inductive js(K:PySem.W.Frag)(ρ:List Addr)(H:Hp):List D->List (V×V)->Prop
 |nil:js K ρ H [] []
 |cons {k d:D} {x y:V} {ds:List D} {ps:List (V×V)} (h1:d8 K ρ H k x) (h2:d8 K ρ H d y) (r:js K ρ H ds ps):js K ρ H (k::d::ds) ((x,y)::ps)
theorem Me{K ρ H}{xs:List D}{ps:List (V×V)}(r:js K ρ H xs ps):∀{acc kvs:List (Key×D)} {accV:List (Key×V)},sC xs acc=some kvs->i4 K ρ H acc accV->∃more:List (Key×V),ps=more.map (λkv=>(kV kv.1,kv.2))/\2*more.length=xs.length/\i4 K ρ H kvs (M7 accV more):=by
 induction r with
 |nil =>
  intro acc kvs accV h ra;cases h;exact⟨[],rfl,rfl,ra⟩
 |cons h1 h2 r ih =>
  rename_i k d x y ds ps;intro acc kvs accV h ra;simp only[sC] at h;cases hk:T8 k with
  |none=>rw[hk] at h;cases h
  |some c =>
   rw[hk] at h;obtain⟨more,e1,e2,r2⟩:=ih (show sC ds (putD acc c d)=some kvs from h) (ra.put h2);have ex:=Q5 hk h1;subst ex;refine⟨(c,y)::more,by rw[aU,<- e1],by simp only[List.length_cons];omega,r2⟩
section
variable{X:Cx}{Ξ:fR}{P:eG}(hP:i5 P){pos:Pos}
inductive kO(X:Cx)(Ξ:fR)(P:eG):List (Option Expr)->List Expr->ME->List (TE×TE)->Prop
 |nil:kO X Ξ P [] [] .nil []
 |cons {k v:Expr} {ks:List (Option Expr)} {vs:List Expr} {mk mv ms:ME} {gk:List (TE×TE)} (hk:PE X k (LE X.K Ξ (aR P mk))) (hv:PE X v (LE X.K Ξ (aR P mv))) (r:kO X Ξ P ks vs ms gk) :
   kO X Ξ P (some k::ks) (v::vs) (.cons mk (.cons mv ms)) ((LE X.K Ξ (aR P mk),LE X.K Ξ (aR P mv))::gk)
theorem kO.Ho{ks vs ms gk}(h:kO X Ξ P ks vs ms gk):sY X pos ks vs gk:=by
 induction h with
 |nil=>exact VH
 |cons hk hv r ih=>exact Sv hk hv ih
theorem kO.len{ks vs ms gk}(h:kO X Ξ P ks vs ms gk):ks.all (·.isSome)=true/\ks.length=vs.length:=by
 induction h with
 |nil=>exact⟨rfl,rfl⟩
 |cons hk hv r ih=>exact⟨by simpa using ih.1,by simp[ih.2]⟩
include hP
theorem kO.pairs{ks vs ms gk}(hd:kO X Ξ P ks vs ms gk):∀{bA:L2.St} {Z:S} {g:G} {ρ eY:List Addr} {H H0:Hp} {Qd:List D->G->Prop} {Q:List (V×V)->Hp->Prop},k7 X.K ρ H Z bA->Rl X.K ρ g H->Ext eY H0 ρ H->eK P ms Z g Qd (LX X.K eY H0 Ξ) ->
  (∀ds g' bq H' ps,Ext ρ H bq H'->Rl X.K bq g' H'->js X.K bq H' ds ps->Qd ds g'->Q ps H')->uP gk bA H Q:=by
 induction hd with
 |nil =>
  intro bA Z g ρ eY H H0 Qd Q s R e0 h k;exact k [] g ρ H [] (.refl _ _) R .nil h
 |cons hk hv r ih =>
  intro bA Z g ρ eY H H0 Qd Q s R e0 h k;refine eA hP s R e0 h λx g1 bC H1 v1 e1 R1 r1 h=>eA hP (s.ext e1) R1 (e0.trans e1) h λy g2 dH H2 v2 e2 R2 r2 h=>?_;refine ih (s.ext (e1.trans e2)) R2 (e0.trans (e1.trans e2)) h λds g' bq H' ps e' R' rp hq=>?_;exact k _ g' bq H' _ (e1.trans (e2.trans e')) R' (.cons (r1.ext (e2.trans e')) (r2.ext e') rp) hq
theorem Nx{ks:List (Option Expr)}{vs:List Expr}{ms:ME}{gk:List (TE×TE)}(hd:kO X Ξ P ks vs ms gk)(h0:ks≠[])(ug:ks.length<=15):PE X (.Dict ks vs pos) (LE X.K Ξ (aR P (.nE ms))) :=
 (VB hd.Ho hd.len.1 hd.len.2 h0 ug).imp λbA H Q ⟨Z,g,ρ,s,R,h⟩ p hp=>by
  have e1:Ext ρ H (ρ++[p]) (upd H p (.dK [])):=J1 hp;refine kO.pairs hP hd (s.ext e1) (R.new hp (o:=.dP []) (u:=.dK []) i4.nil) e1 h λds g2 dH H2 ps e2 R2 rp hq=>?_;obtain⟨kvs,hk,hz,hg,q⟩:=hq;have qZ:dH[g.length]?=some p:=e2.get (R.w9 p);obtain⟨WZ,hv,rv⟩:=R2.dP hg qZ;cases rv;obtain⟨more,em,hl,rk⟩:=Me rp hk (accV:=[]) .nil;refine⟨hv,more,em,by omega,?_⟩;obtain⟨R3,e3⟩:=R2.put (o':=.dP kvs) (u:=.dK (M7 [] more)) hg rfl qZ rk;exact q dH _ _ (e1.trans (e2.trans e3)) R3 (.ref qZ)
end
end M

namespace M
open PySem L2 PySem.Spec PyProof.Rows
theorem Ky{K:PySem.W.Frag}{eY:List Addr}{H0:Hp}{a:Addr}{l:List D}{vs:List V}(ht:TupAt K H0 a vs)(rs:b8 K eY H0 l vs):P6 K eY H0 (.fix l) (Ae K a):=by
 intro ρ g H e R i;have qW:=ht.ext e;have kn:=rs.ext e;refine⟨λh=>⟨vs,qW.sq,?_⟩,λd h=>?_⟩
 ·simp only[IK.at] at h;have:=cw.mp (aF h);rw[<- kn.length];exact this
 ·simp only[IK.at] at h;obtain⟨v,hv,rv⟩:=kn.get (aF h);refine⟨⟨vs,v,qW.sq,hv⟩,λw H' y=>?_⟩;obtain⟨rfl,y⟩:=y;have:=y vs qW.sq;rw[hv] at this;cases this;exact⟨.refl _ _,R,rv⟩
theorem Kw{K:PySem.W.Frag}{eY:List Addr}{H0:Hp}{a:Addr}{j:Nat}(ha:eY[j]?=some a):P6 K eY H0 (.lst j) (Af K a):=by
 intro ρ g H e R i;have jL:=e.get ha;refine⟨λh=>?_,λd h=>?_⟩
 ·simp only[IK.at] at h;cases el:d5 g j with
  |none=>rw[el] at h;cases h
  |some l =>
   rw[el] at h;obtain⟨vs,hq,rs⟩:=R.items el jL;refine⟨vs,hq,?_⟩;have:=cw.mp (aF h);rw[<- rs.length];exact this
 ·simp only[IK.at] at h;cases el:d5 g j with
  |none=>rw[el] at h;cases h
  |some l =>
   rw[el] at h;obtain⟨vs,hq,rs⟩:=R.items el jL;obtain⟨v,hv,rv⟩:=rs.get (aF h);refine⟨⟨vs,v,hq,hv⟩,λw H' y=>?_⟩;obtain⟨rfl,y⟩:=y;have:=y vs hq;rw[hv] at this;cases this;exact⟨.refl _ _,R,rv⟩
theorem FZ{K:PySem.W.Frag}{eY:List Addr}{H0:Hp}{lo:Int}{n:Nat}:P6 K eY H0 (.fix (j6 lo n)) (tj lo n):=by
 unfold j6;intro ρ g H e R i;refine⟨λh=>?_,λd h=>?_⟩
 ·simp only[IK.at] at h;have:=cw.mp (aF h);show n<=i;simpa using this
 ·simp only[IK.at] at h;have h:=aF h;have hi:i<n:=by
   have:=(av.mp h).1;simpa using this
  rw[aD,iz hi] at h;cases h;refine⟨hi,λw H' y=>?_⟩;obtain⟨rfl,rfl⟩:=y;exact⟨.refl _ _,R,.int _⟩
theorem Kx{K:PySem.W.Frag}{eY:List Addr}{H0:Hp}{a:Addr}{j n:Nat}(ha:eY[j]?=some a):P6 K eY H0 (.tN j n) (Ad K a n):=by
 intro ρ g H e R i;have jL:=e.get ha;refine⟨λh=>?_,λd h=>?_⟩
 ·simp only[IK.at] at h;cases el:d5 g j with
  |none=>rw[el] at h;cases h
  |some l =>
   rw[el] at h;dsimp only at h;by_cases hl:l.length=n
   ·rw[aG hl] at h;have h:=aF h;by_cases hi:i<n
    ·rw[aG hi] at h;have:=cw.mp h;omega
    ·exact kd hi
   ·rw[aE hl] at h;cases h
 ·simp only[IK.at] at h;cases el:d5 g j with
  |none=>rw[el] at h;cases h
  |some l =>
   rw[el] at h;dsimp only at h;by_cases hl:l.length=n
   ·rw[aG hl] at h;have h:=aF h;by_cases hi:i<n
    ·rw[aG hi] at h;obtain⟨vs,hq,rs⟩:=R.items el jL;obtain⟨v,hv,rv⟩:=rs.get h;refine⟨⟨vs,v,hq,by rw[<- rs.length];exact hl,hi,hv⟩,λw H' y=>?_⟩;obtain⟨rfl,y⟩:=y;have:=y vs hq;rw[hv] at this;cases this;exact⟨.refl _ _,R,rv⟩
    ·rw[aE hi] at h;cases h
   ·rw[aE hl] at h;cases h
theorem Kv{K:PySem.W.Frag}{eY:List Addr}{H0:Hp}{a:Addr}{j:Nat}(ha:eY[j]?=some a):P6 K eY H0 (.oK j) (Ag K a):=by
 intro ρ g H e R i;have jL:=e.get ha;refine⟨λh=>?_,λd h=>?_⟩
 ·simp only[IK.at] at h;cases el:d5 g j with
  |none=>rw[el] at h;cases h
  |some l =>
   rw[el] at h;obtain⟨vs,hq,rs⟩:=R.items el jL;refine⟨vs,hq,?_⟩;have h:=aF h;rw[Option.map_eq_none_iff] at h;have:=cw.mp h;rw[<- rs.length];exact this
 ·simp only[IK.at] at h;cases el:d5 g j with
  |none=>rw[el] at h;cases h
  |some l =>
   rw[el] at h;obtain⟨vs,hq,rs⟩:=R.items el jL;have h:=aF h;rw[ae] at h;obtain⟨d',hd,rfl⟩:=h;obtain⟨v,hv,rv⟩:=rs.get hd;refine⟨⟨vs,v,hq,hv⟩,λw H' y=>?_⟩;obtain⟨p,x,hp,rfl,y,rfl⟩:=y;have:=y vs hq;rw[hv] at this;cases this;exact⟨n5 hp,R.grow hp,.tup (.inl l0) (.cons (.int _) (.cons (rv.ext (n5 hp)) .nil))⟩
end M
namespace L2
open PySem PySem.Spec PyProof.Rows
theorem Nf{X:Cx}{tg l:Expr}{tl:TE}(hl:PE X l tl):PI X tg l (λZ H R=>tl Z H λx H1=>(∃a,x=.ref a/\(∃xs,eQ X.K H1 a xs)/\R (Af X.K a) H1)\/(∃a,x=.ref a/\(∃xs,gC X.K H1 a xs)/\R (Ae X.K a) H1)):=by
 intro pins s Z H R I h;refine bS (hl pins s Z H _ I h) λv s1 aX=>?_;obtain⟨x,H1,I1,r1,q1⟩:=aX;rcases q1 with⟨a,e,⟨xs,hq⟩,q⟩|⟨a,e,⟨xs,hq⟩,q⟩
 ·subst e;cases r1;obtain⟨aQ,rv,p,hz⟩:=I1.list hq;refine gD p.isList ?_;refine⟨s1.heap.objs.size,[s1.heap.objs.size],_,_,H1,rfl,I1.kept (t':=s1.toks) λb o e=>ai _ e,UG a _,⟨_,ax _ rfl,rfl,rfl⟩,λb hb=>?_,q⟩;have e:b=s1.heap.objs.size:=by simpa using hb
  subst e;exact I1.Y7 (ak _) (I1.bx.fresh (ak _))
 ·subst e;cases r1;obtain⟨aQ,rv,p,hz⟩:=I1.tuple hq;refine wpAny_pyIter_tuple (show s1.heap.IsTuple a aQ.toArray from p) ?_;refine⟨s1.heap.objs.size,[s1.heap.objs.size],_,_,H1,rfl,I1.kept (t':=s1.toks) λb o e=>ai _ e,Vq a _,⟨_,ax _ rfl,rfl,rfl⟩,λb hb=>?_,q⟩;have e:b=s1.heap.objs.size:=by simpa using hb
  subst e;exact I1.Y7 (ak _) (I1.bx.fresh (ak _))
end L2
namespace M
open PySem L2 PySem.Spec PyProof.Rows
section
variable{X:Cx}{Ξ:fR}{P:eG}(hP:i5 P){a b c tg:Expr}{ma mb mc:ME}{pos p:Pos}
include hP
theorem NJ(ha:PE X a (LE X.K Ξ (aR P ma))):PI X tg a (LI X.K Ξ (fX P (.dY ma))) :=
 (Nf ha).imp λbA H R aX=>by
  obtain⟨Z,g,ρ,s,Rr,h⟩:=aX;refine eA hP s Rr (.refl _ _) h λx g1 bC H1 v1 e1 R1 r1 h=>?_;rcases h with⟨l,rfl,h⟩|⟨i,l,rfl,hl,h⟩
  ·obtain⟨a',vs,rfl,ht,rs⟩:=r1.E2;exact .inr ⟨_,rfl,⟨_,ht.sq⟩,h bC H1 _ e1 R1 (Ky ht rs)⟩
  ·obtain⟨a',rfl,jL⟩:=r1.i9;obtain⟨vs,hq,rs⟩:=R1.items hl jL;exact .inl ⟨_,rfl,⟨_,hq⟩,h bC H1 _ e1 R1 (Kw jL)⟩
theorem Wf{elts:List Expr}{x1:Nat}{tp:Pos}(ha:PE X a (LE X.K Ξ (aR P ma)))(hg:Gl X "enumerate")(hm:X.mg "enumerate"=none)(hs:starEach [a] X.env=[(false,eval a X.env)]):PI X (.Tuple elts x1 tp) (.Call (.Name "enumerate" p) [a] [] pos) (LI X.K Ξ (fX P (.jl ma))) :=
 (VG hg hm (t6 hP ha (B7 hP) (by rw[hs];rfl)) hs).imp λbA H R aX=>by
  obtain⟨Z,g,ρ,s,Rr,h⟩:=aX;refine iU hP (m:=.cons ma .nil) s Rr (.refl _ _) (Q0:=λxs g1=>∃a l,xs=[.ref a]/\d5 g1 a=some l/\∀bq H' J,Ext ρ H bq H'->Rl X.K bq g1 H'->P6 X.K bq H' (.oK a) J->R J H') ?_ λxs g1 bC H1 vs e1 R1 r1 h=>?_
  ·skip
   exact b0 hP ma _ _ _ _ _ _ (λx g1 ⟨i,l,e,hl,h⟩=>⟨i,l,by rw[e],hl,h⟩) (λ_ _ z=>z) h
  ·obtain⟨j,l,rfl,hl,h⟩:=h;obtain⟨v,rfl,rv⟩:=r1.one;obtain⟨a',rfl,ra⟩:=rv.i9;obtain⟨vs,hq,rs⟩:=R1.items hl ra;exact⟨_,rfl,⟨_,hq⟩,h bC H1 _ e1 R1 (Kv ra)⟩
theorem NI(ha:PE X a (LE X.K Ξ (aR P ma)))(hg:Gl X "reversed")(hm:X.mg "reversed"=none)(hs:starEach [a] X.env=[(false,eval a X.env)]):PI X tg (.Call (.Name "reversed" p) [a] [] pos) (LI X.K Ξ (fX P (.mz ma))) :=
 (Nd hg hm (t6 hP ha (B7 hP) (by rw[hs];rfl)) hs).imp λbA H R aX=>by
  obtain⟨Z,g,ρ,s,Rr,h⟩:=aX;refine iU hP (m:=.cons ma .nil) s Rr (.refl _ _) (Q0:=λxs g1=>∃a l,xs=[.ref a]/\d5 g1 a=some l/\∀bq H' J,Ext ρ H bq H'->Rl X.K bq g1 H'->P6 X.K bq H' (.tN a l.length) J->R J H') ?_ λxs g1 bC H1 vs e1 R1 r1 h=>?_
  ·skip
   exact b0 hP ma _ _ _ _ _ _ (λx g1 ⟨i,l,e,hl,h⟩=>⟨i,l,by rw[e],hl,h⟩) (λ_ _ z=>z) h
  ·obtain⟨j,l,rfl,hl,h⟩:=h;obtain⟨v,rfl,rv⟩:=r1.one;obtain⟨a',rfl,ra⟩:=rv.i9;obtain⟨vs,hq,rs⟩:=R1.items hl ra;exact⟨_,vs,rfl,hq,h bC H1 _ e1 R1 (by rw[rs.length];exact Kx ra)⟩
theorem Wg(ha:PE X a (LE X.K Ξ (aR P ma)))(hg:Gl X "range")(hm:X.mg "range"=none)(hs:starEach [a] X.env=[(false,eval a X.env)]):PI X tg (.Call (.Name "range" p) [a] [] pos) (LI X.K Ξ (fX P (.dN ma))) :=
 (Up hg hm (t6 hP ha (B7 hP) (by rw[hs];rfl)) hs).imp λbA H R aX=>by
  obtain⟨Z,g,ρ,s,Rr,h⟩:=aX;refine iU hP (m:=.cons ma .nil) s Rr (.refl _ _) (Q0:=λxs g1=>∃j:Int,xs=[.int j]/\-(2 ^ 62)<=j/\j<2 ^ 62/\∀bq H' J,Ext ρ H bq H'->Rl X.K bq g1 H'->P6 X.K bq H' (.fix (j6 0 j.toNat)) J->R J H') ?_ λxs g1 bC H1 vs e1 R1 r1 h=>?_
  ·skip
   exact b0 hP ma _ _ _ _ _ _ (λx g1 ⟨j,e,h1,h2,h⟩=>⟨j,by rw[e],h1,h2,h⟩) (λ_ _ z=>z) h
  ·obtain⟨j,rfl,h1,h2,h⟩:=h;obtain⟨v,rfl,rv⟩:=r1.one;obtain rfl:=rv.i3;exact⟨_,rfl,h1,h2,h bC H1 _ e1 R1 FZ⟩
theorem Wh(ha:PE X a (LE X.K Ξ (aR P ma)))(hb:PE X b (LE X.K Ξ (aR P mb)))(hg:Gl X "range")(hm:X.mg "range"=none)(hs:starEach [a,b] X.env=[(false,eval a X.env),(false,eval b X.env)])(gA:starEach [b] X.env=[(false,eval b X.env)]) :
  PI X tg (.Call (.Name "range" p) [a,b] [] pos) (LI X.K Ξ (fX P (.iG ma mb))) :=
 (Uq hg hm (t6 hP ha (t6 hP hb (B7 hP) (by rw[gA];rfl)) (by rw[hs,gA])) hs gA).imp λbA H R aX=>by
  obtain⟨Z,g,ρ,s,Rr,h⟩:=aX;refine iU hP (m:=.cons ma (.cons mb .nil)) s Rr (.refl _ _) (Q0:=λxs g1=>∃i j:Int,xs=[.int i,.int j]/\(-(2 ^ 62)<=i/\i<2 ^ 62/\-(2 ^ 62)<=j/\j<2 ^ 62)/\∀bq H' J,Ext ρ H bq H'->Rl X.K bq g1 H'->P6 X.K bq H' (.fix (j6 i (j-i).toNat)) J->R J H') ?_ λxs g1 bC H1 vs e1 R1 r1 h=>?_
  ·skip
   exact b0 hP ma _ _ _ _ _ _ (λx g1 h=>b0 hP mb _ _ _ _ _ _ (λy g2 ⟨i,j,e,e',h1,h⟩=>⟨i,j,by rw[e,e'],h1,h⟩) (λ_ _ z=>z) h) (λ_ _ z=>z) h
  ·obtain⟨i,j,rfl,h1,h⟩:=h;obtain⟨v,w,rfl,rv,eZ⟩:=r1.two;obtain rfl:=rv.i3;obtain rfl:=eZ.i3;exact⟨_,_,rfl,h1,h bC H1 _ e1 R1 FZ⟩
end
section
variable{X:Cx}{pos:Pos}
theorem NH{i:Nat}{x:Str}(hN:X.N.Nodup)(hi:X.N[i]?=some x)(hx:Loc X.env.scope x)(hf:X.fn x=true\/X.env.scope.names.lookup x=some .local):PG X (.Name x pos) (LG X.K (.one i)) :=
 (Fu hN hi hx hf).imp λv bA H Q hq=>by
  obtain⟨d,Z,g,ρ,s,R,r,h⟩:=hq;exact h _ (s.set i r)
inductive eO(X:Cx):List Expr->List Nat->Prop
 |nil:eO X [] []
 |cons {x:Str} {p:Pos} {i:Nat} {es:List Expr} {is:List Nat} (hi:X.N[i]?=some x) (hx:Loc X.env.scope x) (hf:X.fn x=true\/X.env.scope.names.lookup x=some .local) (r:eO X es is):eO X (.Name x p::es) (i::is)
def yj:List Nat->nG
 |[]=>Cq
 |i::is=>FX (pV i) (yj is)
theorem Uo(hN:X.N.Nodup){es:List Expr}{is:List Nat}(h:eO X es is):sZ X es (yj is):=by
 induction h with
 |nil=>exact VF
 |cons hi hx hf r ih=>exact Sr (Fu hN hi hx hf) ih rfl
theorem X2:∀{es:List Expr} {is:List Nat},eO X es is->(assignEach es X.env).length=is.length/\(assignEach es X.env).findIdx? (·.1)=none
 |_,_,.nil=>⟨rfl,rfl⟩
 |_,_,.cons (x:=x) (p:=p) (es:=es) hi hx hf r=>by
  obtain⟨h1,h2⟩:=X2 r;have e:assignEach (.Name x p::es) X.env=(false,assign (.Name x p) X.env)::assignEach es X.env:=rfl;rw[e];refine⟨by simp[h1],?_⟩;rw[List.findIdx?_cons,h2]
  rfl
theorem Dv{K:PySem.W.Frag}{ρ:List Addr}{H:Hp}{k:S->Prop}{Q:L2.St->Hp->Prop}:∀{is:List Nat} {l:List D} {vs:List V} {Z bI:S} {bA:L2.St},A2 is l Z=some bI->b8 K ρ H l vs->k7 K ρ H Z bA->(∀cA,k7 K ρ H bI cA->Q cA H)->yj is vs bA H Q
 |[],_,_,_,_,_,h,.nil,s,q=>by
  simp only[A2] at h;cases h;exact⟨rfl,q _ s⟩
 |[],_,_,_,_,_,h,.cons _ _,s,q=>by simp only[A2] at h;cases h
 |i::is,_,_,_,_,_,h,.nil,s,q=>by simp only[A2] at h;cases h
 |i::is,_,_,_,_,_,h,.cons r rr,s,q=>by
  simp only[A2] at h;exact⟨_,_,rfl,Dv (k:=k) h rr (s.set i r) q⟩
theorem S4:∀{is:List Nat} {l:List D} {Z bI:S},A2 is l Z=some bI->l.length=is.length
 |[],[],_,_,_=>rfl
 |[],_::_,_,_,h=>by simp only[A2] at h;cases h
 |_::_,[],_,_,h=>by simp only[A2] at h;cases h
 |_::is,_::l,_,_,h=>by simp only[A2] at h;simp[S4 h]
theorem FF{es:List Expr}{is:List Nat}{k:Nat}(hc:X.calm=true)(hN:X.N.Nodup)(hs:eO X es is):PG X (.Tuple es k pos) (LG X.K (.many is)) :=
 (Nc hc (Uo hN hs) (X2 hs).1 (X2 hs).2).imp λv bA H Q aX=>by
  obtain⟨d,Z,g,ρ,s,R,r,h⟩:=aX;obtain⟨l,bI,rfl,e,h⟩:=h;obtain⟨a',vs,rfl,ht,rs⟩:=r.E2;exact⟨_,_,rfl,ht.sq,by rw[<- rs.length];exact S4 e,Dv (k:=λ_=>True) e rs s h⟩
end
theorem LN.ext{K ρ H N bC H1}(e:Ext ρ H bC H1):(LN K ρ H N).le (LN K bC H1 N) :=
 ⟨λZ g h bq H' cA e' R s=>h bq H' cA (e.trans e') R s,λd g h=>h.ext e,λZ g h bq H' cA e' R s=>h bq H' cA (e.trans e') R s,λZ g h bq H' cA e' R s=>h bq H' cA (e.trans e') R s⟩
section
variable{X:Cx}{Ξ:fR}{P:eG}(hP:i5 P){a b c tg:Expr}{ma mb mc:ME}{st:Stmt}{rest:List Stmt}{vX lx:MS}{pos p:Pos}
include hP
theorem ET:hJ X [] (LS X.K Ξ (wpS P .pass)) :=
 (VM (X:=X)).imp λN bA H ⟨Z,g,ρ,s,R,h⟩=>h ρ H bA (.refl _ _) R s
theorem FG(h1:PS X st (LS X.K Ξ (wpS P vX)))(h2:hJ X rest (LS X.K Ξ (wpS P lx))):hJ X (st::rest) (LS X.K Ξ (wpS P (.seq vX lx))) :=
 (Sy h1 h2).imp λN bA H ⟨Z,g,ρ,s,R,h⟩ =>
  pe hP s R (.refl _ _) (show wpS P vX { LN X.K ρ H N with nx:=λgh g1=>wpS P lx (LN X.K ρ H N) gh g1 (LX X.K ρ H Ξ) } Z g (LX X.K ρ H Ξ) from h) ⟨λgh g1 h bC H1 GI e1 R1 s1=>pe hP s1 R1 e1 h (LN.ext e1),λ_ _ z=>z,λ_ _ z=>z,λ_ _ z=>z⟩
theorem Wn(ha:PE X a (LE X.K Ξ (aR P ma)))(hs:swapsWith a none pos.line X.env=pure false):PS X (.Expr a pos) (LS X.K Ξ (wpS P (.expr ma))) :=
 (VI ha hs).imp λN bA H ⟨Z,g,ρ,s,R,h⟩=>eA hP s R (.refl _ _) h λx g1 bC H1 v1 e1 R1 r1 h=>h bC H1 bA e1 R1 (s.ext e1)
theorem EV{i:Nat}{x:Str}{p:Pos}(h0:PS X (.Assign [.Name x p] a pos) (sH (LE X.K Ξ (aR P ma)) (pV i))):PS X (.Assign [.Name x p] a pos) (LS X.K Ξ (wpS P (.set i ma))) :=
 h0.imp λN bA H ⟨Z,g,ρ,s,R,h⟩=>eA hP s R (.refl _ _) h λx g1 bC H1 v1 e1 R1 r1 h=>h bC H1 _ e1 R1 ((s.ext e1).set i r1)
theorem NV{t:MT}(h0:PS X (.Assign [tg] a pos) (sH (LE X.K Ξ (aR P ma)) (LG X.K t))):PS X (.Assign [tg] a pos) (LS X.K Ξ (wpS P (.jP t ma))) :=
 h0.imp λN bA H ⟨Z,g,ρ,s,R,h⟩=>eA hP s R (.refl _ _) h λx g1 bC H1 v1 e1 R1 r1 h=>⟨x,Z,g1,bC,s.ext e1,R1,r1,u7 (λbI h cA s'=>h bC H1 cA e1 R1 s') h⟩
theorem SW(hu:X.A.units+100<cLine){o i:Expr}{mo mi:ME}{tp:Pos}(ha:PE X a (LE X.K Ξ (aR P ma)))(ho:PE X o (LE X.K Ξ (aR P mo)))(hi:PE X i (LE X.K Ξ (aR P mi)))(hs:swapsWithSole [.Subscript o i tp] a pos.line X.env=pure false)(jL:∀ v,assign (.Subscript o i tp) X.env v=(do
   let ov <- holding [v] (eval o X.env)
   let iv <- holding [v,ov] (eval i X.env)
   standAt tp
   holding [v,ov,iv] (setItem ov iv v)
   release [v,ov,iv] [])):PS X (.Assign [.Subscript o i tp] a pos) (LS X.K Ξ (wpS P (.dz mo mi ma))) :=
 (EM ha (Nb ho hi (NG hu) jL) hs).imp λN bA H ⟨Z,g,ρ,s,R,h⟩ =>
  eA hP s R (.refl _ _) h λx g1 bC H1 v1 e1 R1 r1 h=>eA hP (s.ext e1) R1 e1 h λy g2 dH H2 v2 e2 R2 r2 h=>eA hP (s.ext (e1.trans e2)) R2 (e1.trans e2) h λz g3 ic H3 v3 e3 R3 r3 h =>
   ⟨y,z,x,g3,ic,R3,r2.ext e3,r3,r1.ext (e2.trans e3),N7 (λg4 h nO H4 e4 R4=>h nO H4 bA (e1.trans (e2.trans (e3.trans e4))) R4 (s.ext (e1.trans (e2.trans (e3.trans e4))))) h⟩
omit hP in
def yd(K:PySem.W.Frag)(f:Str)(cs:List Str):Prop:=∀c C,c∈cs->m5 K c C->u6 K C f
omit hP in
theorem We{f:Str}{cs:List Str}(hF:yd X.K f cs){ρ:List Addr}{H:Hp}{g g':G}{x v:D}{xv vv:V}(R:Rl X.K ρ g H)(rx:d8 X.K ρ H x xv)(rv:d8 X.K ρ H v vv)(h:Gd f cs x v g g') :
  ∃a C dx fs,xv=.ref a/\H a=some (.ins C dx fs)/\iY X.K C/\u6 X.K C f/\fs.length<1000/\Rl X.K ρ g' (upd H a (.ins C dx (t4 f vv fs)))/\Ext ρ H ρ (upd H a (.ins C dx (t4 f vv fs))):=by
 obtain⟨i,c,fs,rfl,hi,hc,hz,rfl⟩:=h;obtain⟨a',rfl,ra⟩:=rx.i9;obtain⟨C,dx,vs,hH,hC,jJ,rk,na⟩:=R.ins hi ra;obtain⟨R',e'⟩:=R.put (o':=.ins c (K7 f v fs)) (u:=.ins C dx (t4 f vv vs)) hi rfl ra ⟨hC,jJ,rk.t4 rv,Ef (p:=λy=>u6 X.K C y) (hF c C hc hC) na⟩;exact⟨a',C,dx,vs,rfl,hH,jJ,hF c C hc hC,by rw[<- rk.length];omega,R',e'⟩
theorem Wo{f:Str}{cs:List Str}{o:Expr}{mo:ME}{tp:Pos}(hF:yd X.K f cs)(ho:PE X o (LE X.K Ξ (aR P mo)))(ha:PE X a (LE X.K Ξ (aR P ma)))(hs:swapsWith a (some (.Attribute o f tp)) pos.line X.env=pure false):PS X (.Assign [.Attribute o f tp] a pos) (LS X.K Ξ (wpS P (.gy f cs mo ma))) :=
 (Nh ho ha hs).imp λN bA H ⟨Z,g,ρ,s,R,h⟩=>eA hP s R (.refl _ _) h λx g1 bC H1 v1 e1 R1 r1 h=>eA hP (s.ext e1) R1 e1 h λy g2 dH H2 v2 e2 R2 r2 h=>by
  obtain⟨g3,h,q⟩:=h;obtain⟨a',C,dx,fs,hx,hH,jJ,na,hz,R3,e3⟩:=We hF R2 r2 (r1.ext e2) h;exact⟨a',C,dx,fs,hx,hH,jJ,na,hz,q dH _ bA (e1.trans (e2.trans e3)) R3 (s.ext (e1.trans (e2.trans e3)))⟩
theorem Wm{i:Nat}{x:Str}{tp:Pos}{op:Operator}{p:Pr}(HJ:(op=.Add/\p=.iadd)\/(op=.Sub/\p=.mB))(hN:X.N.Nodup)(hi:X.N[i]?=some x)(hx:Loc X.env.scope x)(hf:X.fn x=true\/X.env.scope.names.lookup x=some .local)(ha:PE X a (LE X.K Ξ (aR P ma))):PS X (.AugAssign (.Name x tp) op a pos) (LS X.K Ξ (wpS P (.jr i p ma))):=by
 have ho:Gn X op (r2 X.K p):=by
  intro pins s Z H x y v u Q I rx ry h;obtain⟨d,e,g,ρ,R,rd,re,d',g',hr,q⟩:=h;rcases HJ with⟨rfl,rfl⟩|⟨rfl,rfl⟩
  ·rcases hr with⟨i,j,ex,rfl,rfl⟩|⟨l,m,ex,hz,rfl,rfl⟩
   ·obtain⟨rfl,rfl⟩:=s9 ex;obtain rfl:=rd.i3;obtain rfl:=re.i3;exact OI pins s Z H _ _ v u Q I rx ry ⟨i,j,rfl,rfl,q.now R (.int _)⟩
   ·obtain⟨rfl,rfl⟩:=s9 ex;obtain⟨p1,GP,rfl,t1,tP⟩:=rd.E2;obtain⟨p2,GO,rfl,t2,tO⟩:=re.E2;refine OG pins s Z H _ _ v u Q I rx ry (.inr ⟨p1,p2,GP,GO,rfl,rfl,t1.sq,t2.sq,by rw[<- tP.length,<- tO.length];exact j7 hz,λz=>?_,λz=>?_,λp hp=>q.tup R hp (tP.append tO)⟩)
    ·subst z;cases tP;exact q.now R (.tup t2 tO)
    ·subst z;cases tO;rw[gF] at q;exact q.now R (.tup t1 tP)
  ·obtain⟨i,j,ex,rfl,rfl⟩:=hr;obtain⟨rfl,rfl⟩:=s9 ex;obtain rfl:=rd.i3;obtain rfl:=re.i3;exact OJ pins s Z H _ _ v u Q I rx ry ⟨i,j,rfl,rfl,q.now R (.int _)⟩
 refine(Ng hN hi hx ha ho hf).imp λN bA H aX=>?_;obtain⟨Z,g,ρ,s,R,h⟩:=aX;obtain⟨xd,HG,h⟩:=h;obtain⟨xv,hv,rx⟩:=s.val _ _ HG;refine⟨xv,hv,eA hP s R (.refl _ _) h λz g1 bC H1 v1 e1 R1 r1 h=>?_⟩;refine⟨xd,z,g1,bC,R1,rx.ext e1,r1,m6 (λw g2 q=>?_) h⟩;exact λdH H2 v2 e2 R2 r2=>q dH H2 _ (e1.trans e2) R2 ((s.ext (e1.trans e2)).set i r2)
theorem Lw{sa sb:List Stmt}{AW msb:MS}(hc:PT X c (LT X.K Ξ (cW P mc)))(ha:hJ X sa (LS X.K Ξ (wpS P AW)))(hb:hJ X sb (LS X.K Ξ (wpS P msb))):PS X (.If c sa sb pos) (LS X.K Ξ (wpS P (.ifs mc AW msb))) :=
 (Ld hc ha hb).imp λN bA H ⟨Z,g,ρ,s,R,h⟩=>mO hP s R (.refl _ _) h λt g1 bC H1 e1 R1 h=>by
  cases t
  ·exact pe hP (s.ext e1) R1 e1 h (LN.ext e1)
  ·exact pe hP (s.ext e1) R1 e1 h (LN.ext e1)
theorem EU(ha:PE X a (LE X.K Ξ (aR P ma))):PS X (.Return (some a) pos) (LS X.K Ξ (wpS P (.ret ma))) :=
 (Nk ha).imp λN bA H ⟨Z,g,ρ,s,R,h⟩=>⟨Z,g,ρ,s,R,h⟩
theorem SX{body:List Stmt}{mb:MS}(hp:PassesOwn (model X.prog X.w) X.A X.env X.xe)(hc:PT X c (LT X.K Ξ (cW P mc)))(hb:hJ X body (LS X.K Ξ (wpS P mb))):PS X (.While c body [] pos) (LS X.K Ξ (wpS P (.jD mc mb))) :=
 (Sx hp hc hb).imp λN bA H aX=>by
  obtain⟨Z,g,ρ,s,R,h⟩:=aX;obtain⟨W,⟨m0,w0⟩,h⟩:=h;refine⟨λm cA H'=>∃bI g' bq,Ext ρ H bq H'/\k7 X.K bq H' bI cA/\Rl X.K bq g' H'/\W m bI g',⟨m0,Z,g,ρ,.refl _ _,s,R,w0⟩,?_⟩;rintro m cA H' ⟨bI,g',bq,e1,s',R',w'⟩;refine mO hP s' R' e1 (h m bI g' w') λt g1 bC H1 e2 R1 q=>?_;cases t
  ·exact q bC H1 cA (e1.trans e2) R1 (s'.ext e2)
  ·obtain⟨N2,wV,q⟩:=q;refine⟨λjd H2=>∃bY g2 dH,Ext ρ H dH H2/\k7 X.K dH H2 bY jd/\Rl X.K dH g2 H2/\N2 bY g2,?_,?_⟩
   ·rintro jd H2 ⟨bY,g2,dH,e3,s2,R2,n2⟩;obtain⟨m',hm,w2⟩:=wV bY g2 n2;exact⟨m',hm,bY,g2,dH,e3,s2,R2,w2⟩
   ·refine pe hP (s'.ext e2) R1 (e1.trans e2) q ⟨?_,?_,?_,?_⟩
    ·exact λgx g3 n3 ic H3 jB e3 R3 s3=>⟨gx,g3,ic,(e1.trans e2).trans e3,s3,R3,n3⟩
    ·exact λd g3 h=>h.ext (e1.trans e2)
    ·exact λgx g3 h ic H3 jB e3 R3 s3=>h ic H3 jB ((e1.trans e2).trans e3) R3 s3
    ·exact λgx g3 n3 ic H3 jB e3 R3 s3=>⟨gx,g3,ic,(e1.trans e2).trans e3,s3,R3,n3⟩
theorem NS{iter:Expr}{mi:ME}{body:List Stmt}{mb:MS}{t:MT}(hp:PassesOwn (model X.prog X.w) X.A X.env X.xe)(hc:X.calm=true)(hi:PI X tg iter (LI X.K Ξ (fX P mi)))(hg:PG X tg (LG X.K t))(hb:hJ X body (LS X.K Ξ (wpS P mb)))(hs:∀x,foldedSetIterable iter X.env x=pure x):PS X (.For tg iter body [] pos) (LS X.K Ξ (wpS P (.cH t mi mb))) :=
 (Ni hp hc hi hg hb hs).imp λN bA H aX=>by
  obtain⟨Z,g,ρ,s,R,h⟩:=aX;refine⟨Z,g,ρ,s,R,w6 hP mi _ _ _ _ _ _ (λk g1 h bC H1 J e1 R1 j1=>?_) (λ_ _ z=>z) h⟩;obtain⟨W,⟨m0,w0⟩,h⟩:=h;refine⟨λi m cA H'=>∃bI g' bq,Ext bC H1 bq H'/\k7 X.K bq H' bI cA/\Rl X.K bq g' H'/\W i m bI g',⟨m0,Z,g1,bC,.refl _ _,s.ext e1,R1,w0⟩,?_⟩;rintro i m cA H' ⟨bI,g',bq,e',s',R',w'⟩;obtain⟨qR,qQ⟩:=j1 bq g' H' e' R' i;rcases h i m bI g' w' with⟨ek,q⟩|⟨x,ek,N2,wV,q⟩
  ·exact .inl ⟨qR ek,q bq H' cA (e1.trans e') R' s'⟩
  ·obtain⟨go,yl⟩:=qQ x ek;refine .inr ⟨go,λjd H2=>∃bY g2 dH,Ext bC H1 dH H2/\k7 X.K dH H2 bY jd/\Rl X.K dH g2 H2/\N2 bY g2,?_,?_⟩
   ·rintro jd H2 ⟨bY,g2,dH,e2,s2,R2,n2⟩;obtain⟨m',hm,w2⟩:=wV bY g2 n2;exact⟨m',hm,bY,g2,dH,e2,s2,R2,w2⟩
   ·intro v H2 y;obtain⟨e2,R2,r2⟩:=yl v H2 y;refine⟨x,bI,g',bq,s'.ext e2,R2,r2,u7 (λbY q jd s2=>?_) q⟩;refine pe hP s2 R2 (e1.trans (e'.trans e2)) q ⟨?_,?_,?_,?_⟩
    ·exact λgx g3 n3 ic H3 jB e3 R3 s3=>⟨gx,g3,ic,(e'.trans e2).trans e3,s3,R3,n3⟩
    ·exact λd g3 h=>h.ext (e1.trans (e'.trans e2))
    ·exact λgx g3 h ic H3 jB e3 R3 s3=>h ic H3 jB (e1.trans ((e'.trans e2).trans e3)) R3 s3
    ·exact λgx g3 n3 ic H3 jB e3 R3 s3=>⟨gx,g3,ic,(e'.trans e2).trans e3,s3,R3,n3⟩
theorem CM{d6:List Nat}{n:Nat}{t:MT}{mi gQ me:ME}:∀bA H Q,LE X.K Ξ (aR P (.comp d6 n t mi gQ me)) bA H Q->zL (LI X.K Ξ (fX P mi)) d6 n (LG X.K t) (LT X.K (mf Ξ.1) (cW P gQ)) (LE X.K (mf Ξ.1) (aR P me)) bA H Q:=λbA H Q aX=>by
 obtain⟨Z,g,ρ,s,R,h⟩:=aX;refine⟨Z,g,ρ,s,R,w6 hP mi _ _ _ _ _ _ (λk g1 h bC H1 J e1 R1 j1=>?_) (λ_ _ z=>z) h⟩;obtain⟨W,⟨m0,w0⟩,h⟩:=h;refine⟨λi m As cA H'=>∃ys bI g' bq,Ext bC H1 bq H'/\k7 X.K bq H' bI cA/\Rl X.K bq g' H'/\b8 X.K bq H' ys As/\W i m ys bI g',⟨m0,[],_,g1,bC,.refl _ _,(s.ext e1).d6 d6 n,R1,.nil,w0⟩,?_⟩;rintro i m As cA H' ⟨ys,bI,g',bq,e',s',R',ry,w'⟩;obtain⟨qR,qQ⟩:=j1 bq g' H' e' R' i;rcases h i m ys bI g' w' with⟨ek,q⟩|⟨x,ek,hz,q⟩
 ·exact .inl ⟨qR ek,λp hp=>(q.ext (e1.trans e')).new R' hp ry⟩
 ·obtain⟨go,yl⟩:=qQ x ek;refine .inr ⟨go,by rw[<- ry.length];exact yR hz,λv H2 y=>?_⟩;obtain⟨e2,R2,r2⟩:=yl v H2 y;refine⟨x,bI,g',bq,s'.ext e2,R2,r2,u7 (λbY q jd s2=>?_) q⟩;refine⟨bY,g',bq,s2,R2,n4 hP gQ _ _ _ _ _ _ (λb g3 q ic H3 e3 R3=>?_) (λ_ _ z=>z.elim) q⟩;cases b
  ·obtain⟨m',hm,w3⟩:=q;exact⟨m',hm,ys,bY,g3,ic,(e'.trans e2).trans e3,s2.ext e3,R3,(ry.ext e2).ext e3,by simpa using w3⟩
  ·refine⟨bY,g3,ic,s2.ext e3,R3,b0 hP me _ _ _ _ _ _ (λz g4 q nO H4 v4 e4 R4 r4=>?_) (λ_ _ z=>z.elim) q⟩;obtain⟨m',hm,w4⟩:=q;exact⟨m',hm,ys++[z],bY,g4,nO,(e'.trans e2).trans (e3.trans e4),(s2.ext e3).ext e4,R4,(((ry.ext e2).ext e3).ext e4).append (.cons r4 .nil),by simpa using w4⟩
theorem SN{elt tg iter:Expr}{ifs:List Expr}{scope:Scope}{N':List Str}{d6:List Nat}{cl:List (Str×Addr)}{pos p2 iD:Pos}{t:MT}{mi gQ me:ME}(S:cP X scope N' d6 cl)(hc:X.calm=true)(hi:PI X tg iter (LI X.K Ξ (fX P mi)))(hg:∀pins C s H fp,PG (d7 X pins scope N' cl C s H fp) tg (LG X.K t))(ht:∀pins C s H fp,ka (d7 X pins scope N' cl C s H fp) ifs (LT X.K (mf Ξ.1) (cW P gQ)))(he:∀pins C s H fp,PE (d7 X pins scope N' cl C s H fp) elt (LE X.K (mf Ξ.1) (aR P me)))(hs:∀x,foldedSetIterable iter X.env x=pure x)(lG:Gl X "sorted")(mG:X.mg "sorted"=none):PE X (.Call (.Name "sorted" p2) [.SetComp elt [⟨tg,iter,ifs,0⟩] scope pos] [] iD) (LE X.K Ξ (aR P (.gn d6 N'.length t mi gQ me))) :=
 (S5 (O3 hc) lG mG (by first|exact nL|decide +kernel) (F8 (Sq S hc hi hg ht he hs) M6)).imp λbA H Q aX=>by
  obtain⟨Z,g,ρ,s,R,h⟩:=aX;refine⟨Z,g,ρ,s,R,w6 hP mi _ _ _ _ _ _ (λk g1 h bC H1 J e1 R1 j1=>?_) (λ_ _ z=>z) h⟩;obtain⟨W,⟨m0,w0⟩,h⟩:=h;refine⟨λi m ys cA H'=>∃bI g' bq,Ext bC H1 bq H'/\k7 X.K bq H' bI cA/\Rl X.K bq g' H'/\W i m ys bI g',⟨m0,_,g1,bC,.refl _ _,(s.ext e1).d6 d6 _,R1,w0⟩,?_⟩;rintro i m ys cA H' ⟨bI,g',bq,e',s',R',w'⟩;obtain⟨qR,qQ⟩:=j1 bq g' H' e' R' i;rcases h i m ys bI g' w' with⟨ek,hz,q⟩|⟨x,ek,hz,q⟩
  ·exact .inl ⟨qR ek,λp hp=>⟨p,ys,rfl,l0,hz,λp' iJ=>(q.ext ((e1.trans e').trans (n5 hp))).new (R'.grow hp) iJ (b8.ofInts _)⟩⟩
  ·obtain⟨go,yl⟩:=qQ x ek;refine .inr ⟨go,hz,λv H2 y=>?_⟩;obtain⟨e2,R2,r2⟩:=yl v H2 y;refine⟨x,bI,g',bq,s'.ext e2,R2,r2,u7 (λbY q jd s2=>?_) q⟩;refine⟨bY,g',bq,s2,R2,n4 hP gQ _ _ _ _ _ _ (λb g3 q ic H3 e3 R3=>?_) (λ_ _ z=>z.elim) q⟩;cases b
   ·obtain⟨m',hm,w3⟩:=q;exact⟨m',hm,bY,g3,ic,(e'.trans e2).trans e3,s2.ext e3,R3,by simpa using w3⟩
   ·refine⟨bY,g3,ic,s2.ext e3,R3,b0 hP me _ _ _ _ _ _ (λz g4 q nO H4 v4 e4 R4 r4=>?_) (λ_ _ z=>z.elim) q⟩;obtain⟨j,rfl,m',hm,w4⟩:=q;obtain rfl:=r4.i3;exact⟨j,rfl,m',hm,bY,g4,nO,(e'.trans e2).trans (e3.trans e4),(s2.ext e3).ext e4,R4,by simpa using w4⟩
end
end M

namespace M
open PySem L2 PySem.Spec PyProof.Rows
section
variable{X:Cx}{Ξ:fR}{P:eG}(hP:i5 P)
include hP
theorem SV{x:Str}{C:Addr}{B newId fx:String}{bm:List Value}{np eW pos:Pos}{iN:Expr}{rest:List Expr}{ft:ME}(hc:X.calm=true)(O:OwnCls x C bm newId X.mg X.base)(FB:ExcBaseFacts B newId fx bm)(hg:Gl X x)(ha:PA X (iN::rest) (LA X.K Ξ (eK P ft)))(hr:uU X Ξ.2)(hx:x∈Ξ.1)(hC:m5 X.K x C)(he:starEach (iN::rest) X.env=(false,eval iN X.env)::starEach rest X.env)(fy:(backTo eW (starEach rest X.env)).any (·.1)=false)(hd:(x==("__debug__":Str))=false):PS X (.Raise (some (.Call (.Name x np) (iN::rest) [] eW)) none pos) (LS X.K Ξ (wpS P (.raise x ft))) :=
 (Sw hc O FB hg ha hr he fy hd).imp λN bA H aX=>by
  obtain⟨Z,g,ρ,s,R,h⟩:=aX;refine iU hP s R (.refl _ _) h λds g1 bC H1 vs e1 R1 r1 h=>?_;exact⟨by rw[<- r1.length];exact j7 (aO h.1 (by decide)),h.2 bC H1 C e1 R1 hx hC⟩
def vi(X:Cx)(ex:List Str)(D:L2.Ends)(hs:List ExceptHandler):fR:=(ex,λv _ H=>∃C,v=.ref C/\V6 X D C H hs)
inductive ky(X:Cx)(Ξ:fR)(P:eG):List ExceptHandler->List (Str×ME)->Prop
 |nil (hh:Z3 X Ξ.2):ky X Ξ P [] []
 |cons {y:Str} {C':Addr} {p p1 p2:Pos} {e:Expr} {me:ME} {hs:List ExceptHandler} {ms:List (Str×ME)} (hg:Gl X y) (hd:(y==("__debug__":Str))=false) (hm:X.mg y=some (.ref C'))
   (hx:∀x C,x∈Ξ.1->m5 X.K x C->PySem.W.exmOne X.K (.ref C) (.ref C')=some (decide (x=y\/y="MintError"))) (he:∀ea,PE (A3 X ea) e (LE X.K (mf Ξ.1) (aR P me))) (r:ky X Ξ P hs ms) :
   ky X Ξ P (.ExceptHandler (some (.Name y p)) none [.Return (some e) p1] p2::hs) ((y,me)::ms)
theorem Df{N:L2.Ends}{ρ bq:List Addr}{H H':Hp}{Z:S}{g:G}{x:Xn}{C:Addr}(hl:Z.length=X.N.length)(e:Ext ρ H bq H')(R:Rl X.K bq g H')(hx:x.cls∈Ξ.1)(hC:m5 X.K x.cls C) :
  ∀{hs:List ExceptHandler} {ms:List (Str×ME)},ky X Ξ P hs ms->kf P (LN X.K ρ H N) (Z.map λ_=>none) (LX X.K ρ H Ξ) ms x g->V6 X N C H' hs
 |_,_,.nil hh,q=>⟨Ξ.2,hh,q bq H' C e R hx hC⟩
 |_,_,.cons (me:=me) hg hd hm HF he r,q=>by
  refine⟨hg,hd,_,_,hm,HF _ _ hx hC,?_⟩;unfold kf at q;split at q
  ·rename_i ex;rw[aG (by simpa using ex)];refine⟨LS X.K (mf Ξ.1) (wpS P (.seq (.ret me) .pass)),λea=>FG (X:=A3 X ea) (Ξ:=mf Ξ.1) hP (EU (X:=A3 X ea) hP (he ea)) (ET (X:=A3 X ea) hP),?_⟩;refine⟨Z.map λ_=>none,g,bq,⟨by simp[hl],λi d z=>?_⟩,R,?_⟩
   ·rw[aD] at z;cases e:Z[i]? with
    |none=>rw[e] at z;cases z
    |some y=>rw[e] at z;cases z
   ·skip
    refine b0 hP me _ _ _ _ _ _ (λd g1 h=>?_) (λ_ _ z=>z.elim) q;exact h.ext e
  ·rename_i ex;rw[aE (by simpa using ex)];exact Df hl e R hx hC r q
theorem NU{h₀:ExceptHandler}{hs:List ExceptHandler}{ms:List (Str×ME)}{body:List Stmt}{mb:MS}{pos:Pos}(cR:X.stack=X.env::X.outer)(hf:X.env.frame=some X.env.locals)(hb:∀pins D,hJ (N5 X pins (Z5 X pins D (h₀::hs))) body (LS X.K (vi X Ξ.1 D (h₀::hs)) (wpS P mb)))(hh:ky X Ξ P (h₀::hs) ms):PS X (.Try body (h₀::hs) [] [] pos) (LS X.K Ξ (wpS P (.S0 mb ms))):=by
 intro pins s bA H N I ⟨Z,g,ρ,sr,R,h⟩;refine Nl (t:=λD=>LS X.K (vi X Ξ.1 D (h₀::hs)) (wpS P mb)) (Ξ:=λD=>(vi X Ξ.1 D (h₀::hs)).2) cR hf (λpins D _=>hb pins D) pins s bA H N I ⟨λC H' ⟨C',e,z⟩=>by cases e;exact z,?_⟩;refine⟨Z,g,ρ,sr,R,wpS_mono hP mb _ _ _ _ _ _ ⟨λ_ _ z=>z,λ_ _ z=>z,λ_ _ z=>z,λ_ _ z=>z⟩ (λx g1 q bq H' C e' R' hm hc=>⟨C,rfl,?_⟩) h⟩;exact Df (Ξ:=Ξ) hP (sr.len.trans I.len) e' R' hm hc hh q
end
end M

namespace M
open PySem L2 PySem.Spec PyProof.Rows
structure f7 where
 N:List Str
 nm:List (Str×NameKind)
 kL:Bool
 fns:List (Str×Nat)
 con:List (Str×D)
 blt:List Str
 exc:List Str
 gd:List (Str×List D)
 cls:List (Str×Nat)
 mW:List (Str×Str×Nat)
 lZ:List (Str×Str)
 iC:Bool
 ie:Bool
def eU:Expr->Bool
 |.Set ..=>false
 |.Starred ..=>false
 |.Slice ..=>false
 |_=>true
def o7:Expr->Bool
 |.ListComp ..=>false
 |.SetComp ..=>false
 |.DictComp ..=>false
 |_=>true
def Z8:Expr->Bool
 |.Tuple ..=>false
 |_=>true
def X6:Expr->Bool
 |.Name ..=>true
 |.Call ..=>true
 |.Subscript ..=>true
 |.Constant ..=>true
 |.Attribute ..=>true
 |.BinOp ..=>true
 |_=>false
def uM:Expr->Bool
 |.Call (.Name ..) ..=>false
 |_=>true
def f7.idx(c:f7)(x:Str):Option Nat:=c.N.findIdx? λy=>decide (y=x)
def f7.pb(c:f7)(x:Str):Bool:=match c.nm.lookup x with
 |some .local=>true
 |some .cell=>true
 |some .free=>true
 |_=>false
def f7.gl(c:f7)(x:Str):Bool:=decide (c.nm.lookup x=some .globalImplicit)
def f7.q9(c:f7)(x:Str):Bool:=decide (c.nm.lookup x=some .local)||decide (c.nm.lookup x=some .cell)
def K2(x:Str):Bool:=(x==("__debug__":Str))==false&&(x==("__classdict__":Str))==false&&decide (x≠"__name__")
def zN:List (Str×String):=[("int","int"),("bool","bool"),("str","str"),("tuple","tuple"),("list","list")]
def yh:List (Str×Pr):=[("len",.len),("list",.list),("tuple",.tuple),("isinstance",.isin),("all",.all),("max",.max),("min",.min),("int",.int),("sum",.sum)]
def Z9:List (Str×Pr):=[]
def yo:List (Str×Pr):=[("append",.append),("pop",.pop),("get",.get),("add",.km)]
def uV:Expr->Option (Str×List Expr)
 |.Call (.Name x _) args [] _=>some (x,args)
 |_=>none
def FO:Expr->Bool
 |.Tuple ..=>true
 |_=>false
def asName:Expr->Option Str
 |.Name x _=>some x
 |_=>none
def frees(sc:Scope):List Str:=(sc.names.filter λy=>decide (y.2=.free)).map (·.1)
def locals(sc:Scope):List Str:=(sc.names.filter λy=>decide (y.2=.local)||decide (y.2=.cell)).map (·.1)
def f7.inner(c:f7)(sc:Scope):f7:={ c with N:=frees sc++locals sc,nm:=sc.names,kL:=false,iC:=false,ie:=false }
def f7.d6(c:f7)(sc:Scope):List Nat:=(frees sc).map λx=>(c.idx x).getD 0
def f7.yX(c:f7)(sc:Scope):Bool :=
 decide (sc.kind=.function)&&sc.names.all (λy=>!decide (y.2=.cell)||decide (sc.names.lookup y.1=some .cell))&&sc.names.all (λy=>!decide (y.2=.local)||decide (sc.names.lookup y.1=some .local)) &&
 decide (frees sc++locals sc).Nodup&&(frees sc).all (λx=>(c.idx x).isSome&&decide (sc.names.lookup x=some .free)&&(decide (c.nm.lookup x=some .cell)||decide (c.nm.lookup x=some .free)))
def f7.slot(c:f7)(e:Expr):Option Nat:=(asName e).bind λx=>if c.q9 x then c.idx x else none
def f7.slots(c:f7):List Expr->Option (List Nat)
 |[]=>some []
 |e::r=>(c.slot e).bind λi=>(c.slots r).map λis=>i::is
def f7.tg(c:f7)(e:Expr):Option MT:=((c.slot e).map .one).orElse λ_=>match e with
 |.Tuple es _ _=>(c.slots es).map .many
 |_=>none
def V0:Const->Option D
 |.int i=>some (.int i)
 |.bool b=>some (.bl b)
 |.none=>some .bw
 |.str x=>some (.str x)
 |_=>none
structure CF where
 e:f7->Expr->Option ME
 t:f7->Expr->Option ME
 s:f7->Stmt->Option MS
section
variable(r:CF)(c:f7)
def c1(p:Pr)(a:Expr):Option ME:=(r.e c a).map λm=>.prim p (.cons m .nil)
def c2(p:Pr)(a b:Expr):Option ME:=(r.e c a).bind λma=>(r.e c b).map λmb=>.prim p (.cons ma (.cons mb .nil))
def A7:List Expr->Option ME
 |[]=>some .nil
 |e::es=>if eU e then(r.e c e).bind λm=>(A7 es).map λms=>.cons m ms else none
def Ew:Expr->Option Str
 |.Constant (.str x) _ _=>some x
 |_=>none
def Cn:Expr->Option Expr
 |.FormattedValue e k none _=>if k=-1 then some e else none
 |_=>none
def pT:List Expr->Option ME
 |[]=>some .nil
 |e::es=>((Ew e).bind λx=>if x.length<=2000 then(pT es).map λms=>.cons (.lit (.str x)) ms else none).orElse λ_ =>
   (Cn e).bind λa=>(r.e c a).bind λm=>(pT es).map λms=>.cons (.prim .fv (.cons m .nil)) ms
def sO:List (Option Expr)->List Expr->Option ME
 |[],[]=>some .nil
 |some k::ks,v::vs=>(r.e c k).bind λmk=>(r.e c v).bind λmv=>(sO ks vs).map λms=>.cons mk (.cons mv ms)
 |_,_=>none
def uw(op:BoolOp):List Expr->Option ME
 |[]=>none
 |[a]=>r.e c a
 |a::b::rs=>(r.e c a).bind λma=>(uw op (b::rs)).map λmb=>match op with
  |.And=>.cB ma mb
  |.Or=>.jg ma mb
def ux(op:BoolOp):List Expr->Option ME
 |[]=>none
 |[a]=>r.t c a
 |a::b::rs=>(r.t c a).bind λma=>(ux op (b::rs)).map λmb=>match op with
  |.And=>.cB ma mb
  |.Or=>.jg ma mb
def Ez:List Expr->Option ME
 |[]=>some .no
 |[e]=>r.t c e
 |_=>none
def n6:List Stmt->Option MS
 |[]=>some .pass
 |s::rs=>(r.s c s).bind λm=>(n6 rs).map λms=>.seq m ms
def zS(x:Str):Option ME :=
 if K2 x then(if c.pb x then(c.idx x).map .var else if c.gl x then((c.con.lookup x).map .lit).orElse λ_=>if c.blt.contains x then(zN.lookup x).map λt=>.lit (.ty t) else none else none) else none
def vw(op:UnaryOp)(a:Expr):Option ME:=if op=.Not then(r.e c a).map .cO else c1 r c (.un op) a
def f7.ve(b:Expr):Option (List D):=(asName b).bind λx=>if c.gl x&&K2 x then c.gd.lookup x else none
def PD:CmpOp->Option Bool
 |.In=>some false
 |.NotIn=>some true
 |_=>none
def sI(a:Expr)(ops:List CmpOp)(bs:List Expr):Option ME:=match ops,bs with
 |[op],[b]=>if behindInMarks op b then none else((PD op).bind λneg=>(c.ve b).bind λkvs=>(r.e c a).map λma=>.prim (uy neg) (.cons (.lit (.tup kvs)) (.cons ma .nil))).orElse λ_=>c2 r c (.cmp op) a b
 |[op,gq],[b,d]=>if lastMarks [op,gq] [b,d] then none else(r.e c a).bind λma=>(r.e c b).bind λmb=>(r.e c d).map λmd=>.chain op gq ma mb md
 |_,_=>none
def Pf:Expr->Option (Option Expr×Option Expr×Option Expr)
 |.Slice lo hi st _=>some (lo,hi,st)
 |_=>none
def Au(a:Expr):Option Expr->Option Expr->Option Expr->Option ME
 |none,none,none=>c1 r c (.je false false) a
 |some b,none,none=>c2 r c (.je true false) a b
 |none,some b,none=>c2 r c (.je false true) a b
 |_,_,_=>none
def zr(a b:Expr):Option ME:=((Pf b).bind λq=>Au r c a q.1 q.2.1 q.2.2).orElse λ_=>if eU b then((c.ve a).bind λkvs=>(r.e c b).map λmb=>.prim .lN (.cons (.lit (.tup kvs)) (.cons mb .nil))).orElse λ_=>c2 r c .ix a b else none
def vx(x:Str)(e:Expr):Option ME:=(uV e).bind λq =>
 if x="list" && q.1="range" && c.blt.contains "list" && c.blt.contains "range" && c.gl "range" then (match q.2 with
  |[a]=>if eU a then c1 r c .ik a else none
  |[a,b]=>if eU a&&eU b then c2 r c .jk a b else none
  | _=>none)
 else if x="sorted" && q.1="set" && c.blt.contains "sorted" && c.blt.contains "set" && c.gl "set" then (match q.2 with
  |[a]=>if eU a then c1 r c .sset a else none
  | _=>none)
 else if x="len" && q.1="set" && c.blt.contains "len" && c.blt.contains "set" && c.gl "set" then (match q.2 with
  |[a]=>if eU a then c1 r c .pO a else none
  | _=>none)
 else none
def JY(x:Str)(e:Expr):List Expr->Option ME
 |[]=>vx r c x e
 |_=>none
def yC(x:Str):Option ME:=if K2 x&&c.gl x then((c.fns.lookup x).map λf=>.call f .nil).orElse λ_=>(c.cls.lookup x).map λf=>.make x f .nil else none
def yD(x:Str)(e:Expr)(es:List Expr):Option ME:=if K2 x&&c.gl x then(JY r c x e es).orElse λ_=>(A7 r c (e::es)).bind λms=>((c.fns.lookup x).map λf=>.call f ms).orElse λ_=>((c.cls.lookup x).map λf=>.make x f ms).orElse λ_=>if c.blt.contains x then(yh.lookup x).map λp=>.prim p ms else none else none
def EY(x:Str):List Expr->Option ME
 |[]=>yC c x
 |e::es=>yD r c x e es
def yE(o:Expr)(m:Str)(apos pos:Pos)(args:List Expr):Option ME :=
 if uM o && (apos.endLine == pos.line) && decide (args.length < 20) then (r.e c o).bind λmo=>(A7 r c args).bind λms=>if m="index" then none else if args.isEmpty && (Z9.lookup m).isSome then (Z9.lookup m).map λp=>.dM p mo ms else (match yo.lookup m with
  |some p=>if args.isEmpty then none else some (.dM p mo ms)
  | none=>none) else none
def f7.fnOf:List Expr->Option (List Nat)
 |[]=>some []
 |e::es=>(asName e).bind λx=>if c.gl x&&K2 x then(c.fns.lookup x).bind λf=>(f7.fnOf es).map λfs=>f::fs else none
def Ey:Expr->Option (Str×Int)
 |.Name x _=>some (x,0)
 |.BinOp (.Name x _) .Sub (.Constant (.int k) _ _) _=>some (x,k)
 |_=>none
def zp(ns:List Expr)(b:Expr)(args:List Expr):Option ME:=if !args.isEmpty&&decide (ns.length<=100) then(c.fnOf ns).bind λfs=>(Ey b).bind λq=>if K2 q.1&&c.pb q.1 then(c.idx q.1).bind λi=>(A7 r c args).map λms=>.iB fs i q.2 ms else none else none
def zR(f:Expr)(args:List Expr)(ig:List Keyword)(pos:Pos):Option ME:=if ig.isEmpty then(match f with
 |.Name x _=>EY r c x args
 |.Attribute o m apos=>yE r c o m apos pos args
 |.Subscript (.List ns _) b _=>zp r c ns b args
 | _=>none) else none
def sQ(tg e:Expr):Option ME:=(((uV e).bind λq =>
  if q.1="enumerate" then (match q.2 with
   |[a]=>if c.gl "enumerate"&&c.blt.contains "enumerate"&&eU a&&FO tg then(r.e c a).map .jl else none
   | _=>none)
  else if q.1="reversed" then (match q.2 with
   |[a]=>if c.gl "reversed"&&c.blt.contains "reversed"&&eU a then(r.e c a).map .mz else none
   | _=>none)
  else if q.1="range" then (match q.2 with
   |[a]=>if c.gl "range"&&c.blt.contains "range"&&eU a then(r.e c a).map .dN else none
   |[a,b]=>if c.gl "range"&&c.blt.contains "range"&&eU a&&eU b then(r.e c a).bind λma=>(r.e c b).map λmb=>.iG ma mb else none
   | _=>none)
  else none):Option ME).orElse λ_=>if eU e then (r.e c e).map .dY else none
def R8(elt:Expr)(gens:List Comprehension)(sc:Scope):Option ME:=match gens with
 |[⟨tg,it,ifs,Bd⟩]=>if c.yX sc&&decide (Bd=0)&&eU it then((c.inner sc).tg tg).bind λt=>(sQ r c tg it).bind λmi=>(Ez r (c.inner sc) ifs).bind λmc=>(r.e (c.inner sc) elt).map λme=>.comp (c.d6 sc) (frees sc++locals sc).length t mi mc me else none
 |_=>none
def Pd:Expr->Option Str
 |.Name x _=>some x
 |_=>none
def Pe:Expr->Option (Expr×List Comprehension×Scope)
 |.SetComp elt gens sc _=>some (elt,gens,sc)
 |_=>none
def JV:ME->Option ME
 |.comp a n t i k e=>some (.gn a n t i k e)
 |_=>none
def vy(f:Expr)(args:List Expr)(ig:List Keyword):Option ME:=match args with
 |[a]=>if ig.isEmpty&&decide (Pd f=some "sorted")&&c.gl "sorted"&&c.blt.contains "sorted" then(Pe a).bind λq=>(R8 r c q.1 q.2.1 q.2.2).bind JV else none
 |_=>none
def tH(f:Expr)(args:List Expr)(ig:List Keyword):Option ME:=(λ(_:f7)=>none) c
def zq(es:List Expr)(k:Nat):Option ME:=if c.kL&&decide (k=0) then(match es with
 |[.Constant (.int i) _ _]=>some (.prim (.jR i) .nil)
 | _=>none) else none
def Ge:Expr->Option ME
 |.Name x _=>zS c x
 |.Constant k _ _=>(V0 k).map .lit
 |.BinOp a op b _=>c2 r c (.bin op) a b
 |.UnaryOp op a _=>vw r c op a
 |.Compare a ops bs _=>sI r c a ops bs
 |.BoolOp op vs _=>uw r c op vs
 |.IfExp t a b _=>(r.t c t).bind λmt=>(r.e c a).bind λma=>(r.e c b).map λmb=>.ite mt ma mb
 |.Tuple es _ _=>(A7 r c es).map (.prim .tup)
 |.List es _=>(A7 r c es).map (.prim .lst)
 |.Subscript a b _=>zr r c a b
 |.Dict ks vs _=>if ks.isEmpty&&vs.isEmpty then some (.prim .U5 .nil) else if decide (ks.length<=15) then(sO r c ks vs).map .nE else none
 |.JoinedStr vs _=>if decide (2<=vs.length)&&decide (vs.length<=40) then(pT r c vs).map (.prim .kr) else none
 |.Attribute o f _=>if uM o then c1 r c (.fld f) o else none
 |.Call f args ig pos=>(vy r c f args ig).orElse λ_=>(tH c f args ig).orElse λ_=>zR r c f args ig pos
 |.ListComp elt gens sc _=>R8 r c elt gens sc
 |.Set es k _=>zq c es k
 |_=>none
def stepT:Expr->Option ME
 |.UnaryOp op a _=>if op=.Not then(r.t c a).map .cO else none
 |.BoolOp op vs _=>ux r c op vs
 |.Compare a ops bs _=>(sI r c a ops bs).map .dU
 |e=>if X6 e then(r.e c e).map .dU else none
def FN:Expr->Option (Str×Pos)
 |.Name x p=>some (x,p)
 |_=>none
def Kb:Expr->Option (Expr×Expr)
 | .Tuple es _ _=>(match es with
  |[a,b]=>some (a,b)
  | _=>none)
 |_=>none
def f7.zl(x:Str)(px:Pos)(y:Str)(py:Pos)(a b:Expr):Bool:=decide (c.nm.lookup x=some .local)&&decide (c.nm.lookup y=some .local)&&decide (x≠y)&&decide (py.line=px.line)&&eU a&&eU b&&!([a,b].all (foldedForSure 8))&&!([a,b].all (constantsAlone 8))
def f7.uE:List Expr->Expr->Bool
 |[s,t],e=>((FN s).bind λp=>(FN t).bind λq=>(Kb e).map λz=>c.zl p.1 p.2 q.1 q.2 z.1 z.2).getD false
 |_,_=>false
def FT:Expr->Option ME
 |.Constant k _ _=>(V0 k).map .lit
 |_=>none
def uH:List Expr->Option ME
 |[]=>some .nil
 |e::es=>(FT e).bind λm=>(uH es).map λms=>.cons m ms
def FR:Expr->Option ME
 |.List es _=>(uH es).map (.prim .lst)
 |.Constant k _ _=>(V0 k).map .lit
 |_=>none
def Ka:List Stmt->Option Expr
 | [s]=>(match s with
  |.Return e _=>e
  | _=>none)
 |_=>none
def yf:ExceptHandler->Option (Str×Expr)
 |.ExceptHandler t n b _=>if n.isNone then t.bind λt=>(asName t).bind λy=>(Ka b).map λe=>(y,e) else none
def sP:List ExceptHandler->Option (List (Str×ME))
 |[]=>some []
 |h::hs=>(yf h).bind λq=>if c.exc.contains q.1&&c.gl q.1&&K2 q.1 then(FR q.2).bind λm=>(sP hs).map λms=>(q.1,m)::ms else none
def yF(e f:Option Expr):Option (Str×Expr×List Expr):=if f.isNone then e.bind λe=>(uV e).bind λq=>q.2.head?.map λa=>(q.1,a,q.2.tail) else none
def f7.vd(f:Str):List Str:=(c.lZ.filter λy=>decide (y.1=f)).map (·.2)
def yg:List Expr->Option (Expr×Expr×Expr×Expr)
 |_=>none
def Cw(tg e:Expr):Option MS:=match tg with
 |.Name x _=>if c.q9 x then(c.idx x).bind λi=>(r.e c e).map λm=>.set i m else none
 |.Tuple es _ _=>(yg es).elim (if(Z8 e&&o7 e)||c.uE es e then(c.slots es).bind λis=>(r.e c e).map λm=>.jP (.many is) m else none) λq=>if o7 e&&eU q.2.1&&eU q.2.2.2 then(r.e c q.1).bind λm1=>(r.e c q.2.1).bind λn1=>(r.e c q.2.2.1).bind λm2=>(r.e c q.2.2.2).bind λn2=>(r.e c e).map λm=>.tL m1 n1 m2 n2 m else none
 |.Subscript o i _=>if eU i&&o7 e then(r.e c o).bind λmo=>(r.e c i).bind λmi=>(r.e c e).map λm=>.dz mo mi m else none
 |.Attribute o f _=>if o7 e then(r.e c o).bind λmo=>(r.e c e).map λm=>.gy f (c.vd f) mo m else none
 |_=>none
def FP:Operator->Option Pr
 |.Add=>some .iadd
 |.Sub=>some .mB
 |_=>none
def toR(e:Expr)(m:ME):ME:=(λ(_:f7)=>m) c
def Gf:Stmt->Option MS
 |.Expr e _=>if o7 e then(r.e c e).map .expr else none
 | .Assign vI e _=>(match vI with
  |[tg]=>Cw r c tg e
  | _=>none)
 | .AugAssign tg op e _=>(match tg with
  |.Name x _=>if c.q9 x then(FP op).bind λp=>(c.idx x).bind λi=>(r.e c e).map λm=>.jr i p m else none
  | _=>none)
 |.If t a b _=>(r.t c t).bind λmt=>(n6 r c a).bind λma=>(n6 r c b).map λmb=>.ifs mt ma mb
 |.For tg it body mK _=>if c.kL&&(mK.isEmpty&&eU it) then(c.tg tg).bind λt=>(sQ r c tg it).bind λmi=>(n6 r c body).map λmb=>.cH t mi mb else none
 |.While t body mK _=>if c.kL&&mK.isEmpty then(r.t c t).bind λmt=>(n6 r c body).map λmb=>.jD mt mb else none
 | .Return e _=>(match e with
  |some e=>(r.e c e).map λm=>.ret (toR c e m)
  | none=>some .nV)
 |.Pass _=>some .pass
 |.Raise e f _=>(yF e f).bind λq=>if c.iC&&c.exc.contains q.1&&c.gl q.1&&K2 q.1 then(A7 r c (q.2.1::q.2.2)).map (.raise q.1) else none
 |.Try body hs el fi _=>if c.ie&&!hs.isEmpty&&el.isEmpty&&fi.isEmpty then(n6 r { c with iC:=false,ie:=false } body).bind λmb=>(sP c hs).map λms=>.S0 mb ms else none
 |_=>none
end
def comp:Nat->CF
 |0=>⟨λ_ _=>none,λ_ _=>none,λ_ _=>none⟩
 |n+1=>⟨Ge (comp n),stepT (comp n),λc s=>(Gf (comp n) c s).orElse λ_=>some (.expr .no)⟩
end M

namespace M
open PySem L2 PySem.Spec PyProof.Rows
structure fN(X:Cx)(c:f7)(P:eG)(Ξ:fR):Prop where
 N:X.N=c.N
 nd:c.N.Nodup
 loc:∀x,c.nm.lookup x=some .local->X.env.scope.names.lookup x=some .local
 uo:∀x,c.nm.lookup x=some .cell->X.env.scope.names.lookup x=some .cell
 xF:∀x,c.nm.lookup x=some .free->X.env.scope.names.lookup x=some .cell\/X.env.scope.names.lookup x=some .free
 BC:∀x,c.nm.lookup x=some .globalImplicit->X.env.scope.names.lookup x=some .globalImplicit
 cells:∀x,(c.nm.lookup x=some .cell\/c.nm.lookup x=some .free)->∃a,X.env.cells.lookup x=some a
 kL:∀x,c.nm.lookup x=some .cell->X.fn x=true
 calm:X.calm=true
 units:X.A.units+100<cLine
 own:c.kL=true->PassesOwn (model X.prog X.w) X.A X.env X.xe
 mono:i5 P
 con:∀x d,c.con.lookup x=some d->∃v u,X.mg x=some u/\RelV v u/\∀ρ H,d8 X.K ρ H d v
 blt:∀x,c.blt.contains x=true->X.mg x=none
 fns:∀x f,c.fns.lookup x=some f->∃k fa fd ps,lS X P Ξ.1 k f fa fd ps/\m9 k X.A/\X.mg x=some (.ref fa)/\PySem.W.keepIn X.K (.ref fa)=true
 cls:∀x f,c.cls.lookup x=some f->∃k C fa fd ps,lS X P Ξ.1 k f fa fd ps/\m9 (k+1) X.A/\X.mg x=some (.ref C)/\m5 X.K x C/\iY X.K C/\Mk X.K C fa
 mW:∀m y f C,(m,y,f)∈c.mW->m5 X.K y C->∃k fa fd ps,Meth X.K C m fa/\lS X P Ξ.1 k f fa fd ps/\m9 k X.A
 lZ:∀f y C,(f,y)∈c.lZ->m5 X.K y C->u6 X.K C f
 uj:Ξ.1=c.exc
 pass:Passes (gI X.prog X.w) X Ξ.2
 iC:c.iC=true->uU X Ξ.2
 ie:c.ie=true->X.stack=X.env::X.outer/\X.env.frame=some X.env.locals/\Z3 X Ξ.2
 exc:∀x,c.exc.contains x=true->∃C,X.mg x=some (.ref C)/\m5 X.K x C/\∃B newId fx bm,OwnCls x C bm newId X.mg X.base/\ExcBaseFacts B newId fx bm
 xJ:∀x y C C',c.exc.contains x=true->c.exc.contains y=true->m5 X.K x C->m5 X.K y C'->PySem.W.exmOne X.K (.ref C) (.ref C')=some (decide (x=y\/y="MintError"))
 rX:∀x kvs,c.gd.lookup x=some kvs->uq X x kvs
 code:c.kL=true->PySem.W.kdsCode X.K X.env.code=true
section
variable{X:Cx}{c:f7}{P:eG}{Ξ:fR}
theorem OF{c:f7}{x:Str}{i:Nat}(h:c.idx x=some i):c.N[i]?=some x:=by
 unfold f7.idx at h;rw[jt] at h;obtain⟨h1,h2,_⟩:=h;rw[aq h1,aY h2]
theorem fN.zO(C:fN X c P Ξ){x:Str}(h:c.pb x=true):sV X.env.scope x:=by
 unfold f7.pb at h;split at h
 ·rename_i e;exact .inl (C.loc x e)
 ·rename_i e;exact .inr (.inl (C.uo x e))
 ·rename_i e;rcases C.xF x e with z|z
  ·exact .inr (.inl z)
  ·exact .inr (.inr z)
 ·cases h
theorem fN.o8(C:fN X c P Ξ){x:Str}(h:c.gl x=true):Gl X x:=C.BC x (aY h)
theorem fN.q9(C:fN X c P Ξ){x:Str}(h:c.q9 x=true):Loc X.env.scope x/\(X.fn x=true\/X.env.scope.names.lookup x=some .local):=by
 unfold f7.q9 at h;rw[dG] at h;rcases h with h|h
 ·have:=C.loc x (aY h);exact⟨.inl this,.inr this⟩
 ·exact⟨.inr (C.uo x (aY h)),.inl (C.kL x (aY h))⟩
theorem fN.U2(C:fN X c P Ξ){x:Str}{i:Nat}(h:c.idx x=some i):X.N[i]?=some x:=by rw[C.N];exact OF h
theorem fN.oh(C:fN X c P Ξ):X.N.Nodup:=by rw[C.N];exact C.nd
theorem V4{e:Expr}{x:Str}(h:asName e=some x):∃p,e=.Name x p:=by
 cases e<;>first|(cases h;exact⟨_,rfl⟩)|cases h
theorem Dc{e:Expr}{i:Nat}(h:c.slot e=some i):∃x p,e=.Name x p/\c.q9 x=true/\c.idx x=some i:=by
 unfold f7.slot at h;obtain⟨x,hx,h2⟩:=ag.mp h;obtain⟨p,rfl⟩:=V4 hx;split at h2
 ·exact⟨x,p,rfl,by assumption,h2⟩
 ·cases h2
theorem fN.slots(C:fN X c P Ξ):∀{es:List Expr} {is:List Nat},c.slots es=some is->eO X es is:=by
 intro es
 induction es with
 |nil=>intro is h;cases h;exact .nil
 |cons e r ih =>
  intro is h;unfold f7.slots at h;obtain⟨i,hi,h⟩:=ag.mp h;obtain⟨Xg,hs,rfl⟩:=ae.mp h;obtain⟨x,p,rfl,hl,hx⟩:=Dc hi;exact .cons (C.U2 hx) (C.q9 hl).1 (C.q9 hl).2 (ih hs)
theorem orElse_some{α:Type}{a:Option α}{b:Unit->Option α}{m:α}(h:a.orElse b=some m):a=some m\/b ()=some m:=by
 cases a with
 |none=>exact .inr h
 |some x=>exact .inl h
theorem fN.CC(C:fN X c P Ξ){tg:Expr}{t:MT}(h:c.tg tg=some t):PG X tg (LG X.K t):=by
 unfold f7.tg at h;rcases orElse_some h with h|h
 ·obtain⟨i,hi,rfl⟩:=ae.mp h;obtain⟨x,p,rfl,hl,hx⟩:=Dc hi;exact NH C.oh (C.U2 hx) (C.q9 hl).1 (C.q9 hl).2
 ·cases tg<;>first|(cases h;done)|skip
  obtain⟨is,hs,rfl⟩:=ae.mp (show(c.slots _).map MT.many=some t from h);exact FF C.calm C.oh (C.slots hs)
theorem j5{e:Expr}{es:List Expr}{env:Env}(h:eU e=true):starEach (e::es) env=(false,eval e env)::starEach es env:=by
 cases e<;>first|rfl|cases h
theorem S6{e:Expr}{env:Env}(h:eU e=true):∀x,foldedSetIterable e env x=pure x:=by
 intro x;cases e<;>first|rfl|cases h
theorem uN{e:Expr}(h:eU e=true):uT e:=by
 intro o i;cases e<;>first|rfl|cases h
theorem OV{o i:Expr}{tp:Pos}{env:Env}(h:eU i=true):∀v,assign (.Subscript o i tp) env v=(do
      let ov <- holding [v] (eval o env)
      let iv <- holding [v,ov] (eval i env)
      standAt tp
      holding [v,ov,iv] (setItem ov iv v)
      release [v,ov,iv] []):=by
  intro v;cases i<;>first|rfl|cases h
theorem N8{e:Expr}{t:Option Expr}{n:Nat}{env:Env}(h:o7 e=true):swapsWith e t n env=pure false:=by
 cases e<;>first|rfl|cases h
theorem Sd{e:Expr}{es:List Expr}{k:Nat}{p:Pos}{env:Env}(h:Z8 e=true):swappedStores [.Tuple es k p] e env=pure none:=by
 cases e<;>first|rfl|cases h
theorem Ur{e:Expr}{env:Env}(h:X6 e=true):∀whole,isTrue e env whole=(do let v <- whole;standAt e.pos;holding [v] (truthy v)):=by
 intro w;cases e<;>first|rfl|cases h
theorem P5{e:Expr}{q:Str×List Expr}(h:uV e=some q):∃p pos,e=.Call (.Name q.1 p) q.2 [] pos:=by
 cases e<;>first|(cases h;done)|skip
 rename_i f as ig pos;cases f<;>first|(cases h;done)|skip
 cases ig<;>first|(cases h;done)|skip
 cases h;exact⟨_,_,rfl⟩
theorem Tg{e:Expr}(h:FO e=true):∃es k p,e=.Tuple es k p:=by
 cases e<;>first|exact⟨_,_,_,rfl⟩|cases h
theorem CO{b:Expr}{kvs:List D}(h:c.ve b=some kvs):∃x p,b=.Name x p/\c.gl x=true/\K2 x=true/\c.gd.lookup x=some kvs:=by
 unfold f7.ve at h;obtain⟨x,hx,h2⟩:=ag.mp h;obtain⟨p,rfl⟩:=V4 hx;split at h2
 ·rename_i hc;rw[aW] at hc;exact⟨x,p,rfl,hc.1,hc.2,h2⟩
 ·cases h2
theorem L8{o:Expr}{f:Str}{env:Env}(h:uM o=true):attributeBase o f env (eval o env)=eval o env:=by
 cases o<;>first|rfl|skip
 rename_i f as ig pos;cases f<;>first|rfl|cases h
theorem yI{env:Env}:∀(names:List (Str×NameKind)) (acc:List (Str×Addr)),(∀y∈names,y.2=.free->∃a,env.cells.lookup y.1=some a)->(∀x a,acc.lookup x=some a->env.cells.lookup x=some a) ->
  ∃ cl,(forIn names acc λ(y:Str × NameKind) (cs:List (Str × Addr))=>(match y with
   |(name,kind)=>if(kind==NameKind.free)=true then do
     let __do_lift <- cellOf env name
     pure (ForInStep.yield ((name,__do_lift)::cs))
    else pure (ForInStep.yield cs):Sem (ForInStep (List (Str × Addr)))))=pure cl/\(∀ x a,cl.lookup x=some a->env.cells.lookup x=some a)/\(∀ y ∈ names,y.2=.free->∃ a,cl.lookup y.1=some a)/\∀ x a,acc.lookup x=some a->∃ a',cl.lookup x=some a'
 |[],acc,_,h2=>⟨acc,rfl,h2,λy hy=>absurd hy (by simp),λx a h=>⟨a,h⟩⟩
 |(n,k)::r,acc,h1,h2=>by
  rw[List.forIn_cons];by_cases hk:k=.free
  ·subst hk;obtain⟨a,ha⟩:=h1 (n,.free) (by simp) rfl;have hc:cellOf env n=pure a:=by unfold cellOf;rw[ha]
   obtain ⟨cl,e,q1,q2,q3⟩:=yI r ((n,a) :: acc) (λy hy=>h1 y (by simp [hy])) (λx b hb=>by
    rw[bW] at hb;cases hx:x==n with
    |true=>rw[hx] at hb;cases hb;rw[eq_of_beq hx];exact ha
    | false=>rw [hx] at hb;exact h2 x b hb)
   refine⟨cl,?_,q1,λy hy hf=>?_,λx b hb=>?_⟩
   ·simp only[beq_self_eq_true,if_true,hc];exact e
   ·rcases az.mp hy with z|z
    ·subst z;exact q3 n a (by simp[List.lookup_cons])
    ·exact q2 y z hf
   ·cases hx:x==n with
    |true=>exact q3 x a (by rw[bW,hx])
    |false=>exact q3 x b (by rw[bW,hx];exact hb)
  ·have hb:(k==NameKind.free)=false:=by simpa using hk
   obtain⟨cl,e,q1,q2,q3⟩:=yI r acc (λy hy=>h1 y (by simp[hy])) h2;refine⟨cl,?_,q1,λy hy hf=>?_,q3⟩
   ·simp only[hb,Bool.false_eq_true,if_false];exact e
   ·rcases az.mp hy with z|z
    ·subst z;exact absurd hf hk
    ·exact q2 y z hf
end
end M

namespace M
open PySem L2 PySem.Spec PyProof.Rows
theorem Uj{P:Program}{w:World}{X:Cx}:Passes (gI P w) X (λ_ _ _=>False):=λ_ _ _ _ _ _ _ h=>by
 obtain⟨_,_,_,_,_,_,_,z⟩:=h;exact z.elim
theorem K5{env:Env}:∀{names:List (Str×NameKind)} {x:Str},names.lookup x=some .globalImplicit ->
  (names.map λ(n,k)=>if(k==NameKind.free&&env.scope.kind==.function&&env.kindOf n==some .cell) then(n,NameKind.cell) else(n,k)).lookup x=some .globalImplicit
 |[],_,h=>by simp at h
 |(n,k)::r,x,h=>by
  have ih:=@K5 env r x;show List.lookup x ((if(k==NameKind.free&&env.scope.kind==.function&&env.kindOf n==some .cell)=true then(n,NameKind.cell) else(n,k))::_)=_;cases hx:x==n with
  |true =>
   simp only[List.lookup_cons,hx] at h;cases h;simp[List.lookup_cons,hx]
  |false =>
   simp only[List.lookup_cons,hx] at h;by_cases hc:(k==NameKind.free&&env.scope.kind==.function&&env.kindOf n==some .cell)=true
   ·rw[aG hc];simp only[List.lookup_cons,hx];exact ih h
   ·rw[aE hc];simp only[List.lookup_cons,hx];exact ih h
section
variable{X:Cx}{c:f7}{P:eG}{Ξ:fR}
theorem fN.comp(C:fN X c P Ξ){sc:Scope}(h:c.yX sc=true):∃cl,cP X sc (frees sc++locals sc) (c.d6 sc) cl/\∀pins A s H fp,fN (d7 X pins sc (frees sc++locals sc) cl A s H fp) (c.inner sc) P (mf Ξ.1):=by
 unfold f7.yX at h;simp only[Bool.and_eq_true,decide_eq_true_eq,List.all_eq_true] at h;obtain⟨⟨⟨⟨h1,h2⟩,h3⟩,h4⟩,h5⟩:=h;have jo:∀x,sc.names.lookup x=some .free->x∈frees sc:=λx hx=>by
  unfold frees;exact aT.mpr ⟨(x,.free),cg.mpr ⟨aI hx,by simp⟩,rfl⟩
 have fr:∀x∈frees sc,(∃i,c.idx x=some i)/\sc.names.lookup x=some .free/\(c.nm.lookup x=some .cell\/c.nm.lookup x=some .free):=λx hx=>by
  have:=h5 x hx;rw[dC,dG] at this;simp only[decide_eq_true_eq] at this;exact⟨this.1.1,this.1.2,this.2⟩
 have oQ:∀y∈sc.names,y.2=.free->∃a,X.env.cells.lookup y.1=some a:=λy hy hf=>by
  have hm:y.1∈frees sc:=aT.mpr ⟨y,cg.mpr ⟨hy,by simp[hf]⟩,rfl⟩;exact C.cells y.1 (fr y.1 hm).2.2
 obtain⟨cl,e,q1,q2,_⟩:=yI sc.names [] oQ (λx a h=>by simp at h);have h2:∀y∈sc.names,y.2=.cell->sc.names.lookup y.1=some .cell:=λy hy hl=>by
  have:=h2 y hy;rw[dG] at this;simp only[Bool.not_eq_true',decide_eq_false_iff_not,decide_eq_true_eq] at this;exact this.resolve_left λz=>z hl
 refine⟨cl,⟨h1,h2,λy hy hl=>?_,?_,q1,λx hx=>q2 (x,.free) (aI hx) rfl,h4,λi j ir=>?_,?_⟩,λpins A s H fp=>?_⟩
 ·have:=h3 y hy;rw[dG] at this;simp only[Bool.not_eq_true',decide_eq_false_iff_not,decide_eq_true_eq] at this;exact this.resolve_left λz=>z hl
 ·simp only[closureFor];rw[e]
  rfl
 ·unfold f7.d6 at ir;rw[aD] at ir;cases ex:(frees sc)[i]? with
  |none=>rw[ex] at ir;cases ir
  |some x =>
   rw[ex] at ir;have hx:x∈frees sc:=aZ ex;obtain⟨⟨k,hk⟩,hl,hc⟩:=fr x hx;have hj:k=j:=by
    have:=aF ir;dsimp only at this;rw[hk] at this;exact this
   subst hj;refine⟨x,?_,C.U2 hk,hl,?_⟩
   ·rw[aA (av.mp ex).1];exact ex
   ·rcases hc with z|z
    ·exact .inl (C.uo x z)
    ·exact C.xF x z
 ·unfold f7.d6;rw[aj,bc];omega
 ·refine⟨rfl,h4,λx hx=>lookup_relabel_local hx,λx hx=>?_,λx hx=>A5 hx,λx hx=>K5 hx,λx hx=>?_,λx _=>?_,rfl,C.units,(λ_=>PassesOwn.never),C.mono,C.con,C.blt,C.fns,C.cls,C.mW,C.lZ,C.uj,Uj,(λz=>by cases z),(λz=>by cases z),C.exc,C.xJ,C.rX,(λz=>by cases z)⟩
  ·exact F5 hx
  ·rcases hx with hx|hx
   ·exact Ds (.inl hx)
   ·exact Ds (.inr (q2 (x,.free) (aI hx) rfl))
  ·exact aM ‹_›
theorem v8{x:Str}(h:K2 x=true):(x==("__debug__":Str))=false/\(x==("__classdict__":Str))=false/\x≠"__name__":=by
 unfold K2 at h;simp only[Bool.and_eq_true,decide_eq_true_eq,beq_iff_eq] at h;exact⟨h.1.1,h.1.2,h.2⟩
theorem Tb{x:Str}{t:String}(h:zN.lookup x=some t):bootBuiltins x=some (.type t):=by
 have hm:=aI h;simp only[zN,List.mem_cons,List.mem_nil_iff,or_false] at hm;rcases hm with z|z|z|z|z<;>(cases z;first|exact tE|exact PyProof.Rows.boot_bool|exact PyProof.Rows.boot_str|exact oZ|exact dW|decide +kernel|rfl)
theorem Ti{x:Str}{p:Pr}(hc:X.calm=true)(h:yh.lookup x=some p):∃v,((∃id,v=.builtin id)\/∃T,v=.type T)/\bootBuiltins x=some v/\j9 X v (rN X.K p):=by
 have hm:=aI h;simp only[yh,List.mem_cons,List.mem_nil_iff,or_false] at hm;rcases hm with z|z|z|z|z|z|z|z|z
 ·cases z;exact⟨.builtin "len",.inl ⟨_,rfl⟩,PySem.boot_len,Mv⟩
 ·cases z;exact⟨.type "list",.inr ⟨_,rfl⟩,by first|exact dW|decide +kernel,ON hc⟩
 ·cases z;exact⟨.type "tuple",.inr ⟨_,rfl⟩,by first|exact oZ|decide +kernel,SY⟩
 ·cases z;exact⟨.builtin "isinstance",.inl ⟨_,rfl⟩,by first|exact PyProof.Rows.boot_isinstance|decide +kernel,OK⟩
 ·cases z;exact⟨.builtin "all",.inl ⟨_,rfl⟩,by first|exact PyProof.Rows.boot_all|decide +kernel,Ma hc⟩
 ·cases z;exact⟨.builtin "max",.inl ⟨_,rfl⟩,by first|exact PyProof.Rows.boot_max|decide +kernel,Mz hc⟩
 ·cases z;exact⟨.builtin "min",.inl ⟨_,rfl⟩,by first|exact PyProof.Rows.boot_min|decide +kernel,MA hc⟩
 ·cases z;exact⟨.type "int",.inr ⟨_,rfl⟩,by first|exact tE|decide +kernel,Ml⟩
 ·cases z;exact⟨.builtin "sum",.inl ⟨_,rfl⟩,by first|exact PyProof.Rows.boot_sum|decide +kernel,NQ hc⟩
theorem Vb{x:Str}{p:Pr}(h:Z9.lookup x=some p):∃T id,PlainAttrs T/\Slot T x id/\typeOf (.builtin id)=pure (.type "method_descriptor")/\lR X id (rM X.K p) /\
  ∀{d:D} {v:V} {g:G} {ρ:List Addr} {H:Hp},Rl X.K ρ g H->d8 X.K ρ H d v->lz p d g->lV X.K T v H:=by
 cases h
theorem Ua{x:Str}{p:Pr}(hu:X.A.units+100<cLine)(h:yo.lookup x=some p):∃T id,PlainAttrs T/\Slot T x id/\typeOf (.builtin id)=pure (.type "method_descriptor")/\lR X id (rM X.K p) /\
  ∀{d:D} {v:V} {g:G} {ρ:List Addr} {H:Hp},Rl X.K ρ g H->d8 X.K ρ H d v->lz p d g->lV X.K T v H:=by
 have hm:=aI h;simp only[yo,List.mem_cons,List.mem_nil_iff,or_false] at hm;rcases hm with z|z|z|z
 ·cases z;exact⟨_,_,oX,PySem.F.slot_list_append,PySem.F.type_list_append,Tf,λR r h=>ty_list R r h⟩
 ·cases z;exact⟨_,_,oX,PySem.F.slot_list_pop,PySem.F.type_list_pop,Su,λR r h=>ty_list R r h⟩
 ·cases z;exact⟨_,_,PySem.F.plainAttrs_dict,gK,PySem.F.type_dict_get,Mg hu,λR r h=>ty_dict R r h⟩
 ·cases z;exact⟨_,_,PySem.F.plainAttrs_set,PySem.F.slot_set_add,PySem.F.type_set_add,VT,λR r h=>ty_set R r h⟩
theorem Dd{pos:Pos}{env:Env}:∀{es:List Expr},(∀e∈es,eU e=true)->(backTo pos (starEach es env)).all (λx=>!x.1)=true
 |[],_=>rfl
 |e::es,h=>by
  rw[j5 (h e (by simp))];have ih:=Dd (pos:=pos) (env:=env) (es:=es) λx hx=>h x (by simp[hx]);unfold backTo at ih ⊢;rw[aU,List.all_cons,ih]
  rfl
theorem M1{pos:Pos}{env:Env}:∀{es:List Expr},(∀e∈es,eU e=true)->(backTo pos (starEach es env)).any (·.1)=false
 |[],_=>rfl
 |e::es,h=>by
  rw[j5 (h e (by simp))];have ih:=M1 (pos:=pos) (env:=env) (es:=es) λx hx=>h x (by simp[hx]);unfold backTo at ih ⊢;rw[aU,fK,ih]
  rfl
theorem V1{r:CF}:∀{es:List Expr} {m:ME},A7 r c es=some m->∀e∈es,eU e=true:=by
 intro es
 induction es with
 |nil=>intro m _ e he;exact absurd he (by simp)
 |cons a es ih =>
  intro m h e he;unfold A7 at h;split at h
  ·obtain⟨m1,h1,h⟩:=ag.mp h;obtain⟨m2,h2,_⟩:=ae.mp h;rcases az.mp he with z|z
   ·rw[z];assumption
   ·exact ih h2 e z
  ·cases h
end
theorem UL{a:Expr}{x:Str}(h:Ew a=some x):∃j p,a=.Constant (.str x) j p:=by
 cases a with
 |Constant k j p=>cases k with
  |str y=>cases h;exact⟨_,_,rfl⟩
  |_=>cases h
 |_=>cases h
theorem Wx{a e:Expr}(h:Cn a=some e):∃p,a=.FormattedValue e (-1) none p:=by
 cases a with
 |FormattedValue v k f p=>cases f with
  |none =>
   have h2:(if k=-1 then some v else none)=some e:=h;split at h2
   ·rename_i hk;cases h2;rw[hk];exact⟨_,rfl⟩
   ·cases h2
  |some _=>cases h
 |_=>cases h
structure nH(P:eG)(r:CF):Prop where
 e:∀X c Ξ,fN X c P Ξ->∀e m,r.e c e=some m->PE X e (LE X.K Ξ (aR P m))
 t:∀X c Ξ,fN X c P Ξ->∀e m,r.t c e=some m->PT X e (LT X.K Ξ (cW P m))
 s:∀X c Ξ,fN X c P Ξ->∀st m,r.s c st=some m->PS X st (LS X.K Ξ (wpS P m))
section
variable{X:Cx}{c:f7}{P:eG}{Ξ:fR}{r:CF}(S:nH P r)(C:fN X c P Ξ){a b d e:Expr}{m:ME}{pos:Pos}
include S C
theorem R5{p:Pr}(h:c1 r c p a=some m):∃ma,PE X a (LE X.K Ξ (aR P ma))/\m=.prim p (.cons ma .nil):=by
 obtain⟨ma,ha,rfl⟩:=ae.mp h;exact⟨ma,S.e X c Ξ C _ _ ha,rfl⟩
theorem R0{p:Pr}(h:c2 r c p a b=some m):∃ma mb,PE X a (LE X.K Ξ (aR P ma))/\PE X b (LE X.K Ξ (aR P mb))/\m=.prim p (.cons ma (.cons mb .nil)):=by
 obtain⟨ma,ha,h⟩:=ag.mp h;obtain⟨mb,hb,rfl⟩:=ae.mp h;exact⟨ma,mb,S.e X c Ξ C _ _ ha,S.e X c Ξ C _ _ hb,rfl⟩
theorem oi:∀{es:List Expr} {m:ME},A7 r c es=some m->PA X es (LA X.K Ξ (eK P m)):=by
 intro es
 induction es with
 |nil=>intro m h;cases h;exact B7 C.mono
 |cons a es ih =>
  intro m h;unfold A7 at h;split at h
  ·rename_i bx;obtain⟨m1,h1,h⟩:=ag.mp h;obtain⟨m2,h2,rfl⟩:=ae.mp h;exact t6 C.mono (S.e X c Ξ C _ _ h1) (ih h2) (j5 bx)
  ·cases h
theorem Hu:∀{es:List Expr} {m:ME},pT r c es=some m->∃ts,kN X Ξ P es m ts:=by
 intro es
 induction es with
 |nil=>intro m h;cases h;exact⟨_,.nil⟩
 |cons a es ih =>
  intro m h;unfold pT at h;rcases orElse_some h with h1|h1
  ·obtain⟨x,hx,h2⟩:=ag.mp h1;obtain⟨j,p,rfl⟩:=UL hx;split at h2
   ·obtain⟨m2,h3,rfl⟩:=ae.mp h2;obtain⟨ts,F⟩:=ih h3;exact⟨_,.lit (by assumption) F⟩
   ·cases h2
  ·obtain⟨x,hx,h2⟩:=ag.mp h1;obtain⟨m1,h3,h4⟩:=ag.mp h2;obtain⟨m2,h5,rfl⟩:=ae.mp h4;obtain⟨p,rfl⟩:=Wx hx;obtain⟨ts,F⟩:=ih h5;exact⟨_,.val (S.e X c Ξ C _ _ h3) F⟩
theorem Hw:∀{ks:List (Option Expr)} {vs:List Expr} {m:ME},sO r c ks vs=some m->∃gk,kO X Ξ P ks vs m gk:=by
 intro ks
 induction ks with
 |nil=>intro vs m h;cases vs<;>first|(cases h;exact⟨_,.nil⟩)|cases h
 |cons k ks ih =>
  intro vs m h;cases k<;>first|(cases h;done)|skip
  cases vs<;>first|(cases h;done)|skip
  unfold sO at h;obtain⟨m1,h1,h⟩:=ag.mp h;obtain⟨m2,h2,h⟩:=ag.mp h;obtain⟨m3,h3,rfl⟩:=ae.mp h;obtain⟨gk,D⟩:=ih h3;exact⟨_,.cons (S.e X c Ξ C _ _ h1) (S.e X c Ξ C _ _ h2) D⟩
theorem Hx{op:BoolOp}:∀{vs:List Expr} {m:ME},uw r c op vs=some m->PE X (.BoolOp op vs pos) (LE X.K Ξ (aR P m)):=by
 intro vs
 induction vs with
 |nil=>intro m h;cases h
 |cons a vs ih =>
  intro m h;cases vs with
  |nil=>exact MZ (S.e X c Ξ C _ _ h)
  |cons b vs =>
   unfold uw at h;obtain⟨m1,h1,h⟩:=ag.mp h;obtain⟨m2,h2,rfl⟩:=ae.mp h;cases op
   ·exact Nv C.mono (S.e X c Ξ C _ _ h1) (ih h2)
   ·exact Lp C.mono (S.e X c Ξ C _ _ h1) (ih h2)
theorem Hr{op:BoolOp}:∀{vs:List Expr} {m:ME},ux r c op vs=some m->PW X (.BoolOp op vs pos) (LT X.K Ξ (cW P m)):=by
 intro vs
 induction vs with
 |nil=>intro m h;cases h
 |cons a vs ih =>
  intro m h;cases vs with
  |nil =>
   cases op
   ·exact VP (S.t X c Ξ C _ _ h)
   ·exact Np (S.t X c Ξ C _ _ h)
  |cons b vs =>
   unfold ux at h;obtain⟨m1,h1,h⟩:=ag.mp h;obtain⟨m2,h2,rfl⟩:=ae.mp h;cases op
   ·exact NR C.mono (S.t X c Ξ C _ _ h1) (ih h2)
   ·exact Lv C.mono (S.t X c Ξ C _ _ h1) (ih h2)
theorem Qb{es:List Expr}(h:Ez r c es=some m):ka X es (LT X.K Ξ (cW P m)):=by
 rcases es with _|⟨e,_|⟨_,_⟩⟩
 ·cases h;exact Wl C.mono
 ·exact VO (S.t X c Ξ C _ _ h)
 ·cases h
theorem pP:∀{AB:List Stmt} {m:MS},n6 r c AB=some m->hJ X AB (LS X.K Ξ (wpS P m)):=by
 intro es
 induction es with
 |nil=>intro m h;cases h;exact ET C.mono
 |cons a es ih =>
  intro m h;unfold n6 at h;obtain⟨m1,h1,h⟩:=ag.mp h;obtain⟨m2,h2,rfl⟩:=ae.mp h;exact FG C.mono (S.s X c Ξ C _ _ h1) (ih h2)
end
theorem Ep{e t:Expr}{n:Nat}{env:Env}(h:o7 e=true):swapsWithSole [t] e n env=pure false:=by
 show swapsWith e (some t) n env=pure false;exact N8 h
theorem Vf{x y:Str}{px py pt mU:Pos}{kt k2:Nat}{a b:Expr}{env:Env}(hk:env.scope.kind=.function)(hx:env.kindOf x=some .local)(hy:env.kindOf y=some .local)(dO:x≠y)(hl:py.line=px.line)(ha:eU a=true)(hb:eU b=true)(h1:[a,b].all (foldedForSure 8)=false)(h2:[a,b].all (constantsAlone 8)=false):swappedStores [.Tuple [.Name x px,.Name y py] kt pt] (.Tuple [a,b] k2 mU) env=pure (some [x,y]):=by
 have Iq:env.blockKind=.function:=by simp[Env.blockKind,hk,ScopeKind.isAnnotationScope]
 have hd:[x,y].eraseDups.length=2:=by
  have:(y==x)=false:=by simpa using bR dO
  simp[List.eraseDups_cons,this]
 have qT:(env.kindOf x==some NameKind.local&&px.line==px.line)=true:=by simp[hx]
 have wj:(env.kindOf y==some NameKind.local&&py.line==px.line)=true:=by simp[hy,hl]
 have hp:Expr.pos (.Name x px)=px:=rfl;unfold swappedStores;simp only[List.length_cons,List.length_nil,Iq,List.head?_cons,Option.map_some,Option.getD_some,hp,List.filterMap_cons,List.filterMap_nil,qT,wj,if_true,hd,h1,h2];rw[aE (by decide),aE ?_]
 ·rfl
 ·simp only[List.any_cons,List.any_nil,Bool.or_false,Bool.or_eq_true,not_or];constructor
  ·cases a<;>first|(intro h;cases h;done)|cases ha
  ·cases b<;>first|(intro h;cases h;done)|cases hb
theorem NT{X:Cx}{Ξ:fR}{P:eG}(hP:i5 P){i j:Nat}{x y:Str}{a b:Expr}{px py pt mU pos:Pos}{kt k2:Nat}{ft:ME}(hc:X.calm=true)(hN:X.N.Nodup)(hi:X.N[i]?=some x)(hj:X.N[j]?=some y)(dO:x≠y)(hl:py.line=px.line)(hx:X.env.scope.names.lookup x=some .local)(hy:X.env.scope.names.lookup y=some .local)(oa:eU a=true)(ob:eU b=true)(h1:[a,b].all (foldedForSure 8)=false)(h2:[a,b].all (constantsAlone 8)=false)(ha:PA X [a,b] (LA X.K Ξ (eK P ft))):PS X (.Assign [.Tuple [.Name x px,.Name y py] kt pt] (.Tuple [a,b] k2 mU) pos) (LS X.K Ξ (wpS P (.jP (.many [i,j]) (.prim .tup ft)))):=by
 intro pins s bA H D I h;have ir:i≠j:=by
  rintro rfl;rw[hi] at hj;cases hj;exact dO rfl
 refine Nj hc hN hi hj ir hx hy ha (Vf I.ok.kind hx hy dO hl oa ob h1 h2) rfl pins s bA H D I ?_;obtain⟨Z,g,ρ,sr,R,h⟩:=h;refine iU hP sr R (.refl _ _) (show eK P ft Z g (λxs g1=>cF .tup xs g1 _) _ from h) λds g1 bC H1 vs e1 R1 r1 h=>?_;obtain⟨d',g',⟨_,rfl,rfl⟩,l,bI,ex,hs,h⟩:=h;cases ex;have hl:=S4 hs;have e2:∃d1 d2,ds=[d1,d2]:=by
  rcases ds with _|⟨d1,_|⟨d2,_|⟨d3,r⟩⟩⟩<;>first|exact⟨_,_,rfl⟩|(simp at hl;done)|(simp at hl;omega)
 obtain⟨d1,d2,rfl⟩:=e2;obtain⟨v,w,rfl,q1,q2⟩:=r1.two;cases hs;exact⟨_,_,rfl,h bC H1 _ e1 R1 (((sr.ext e1).set i q1).set j q2)⟩
theorem fN.S0{X:Cx}{c:f7}{Ξ:fR}{P:eG}(C:fN X c P Ξ)(cR:X.stack=X.env::X.outer)(hf:X.env.frame=some X.env.locals)(pins:List (Addr×Obj))(D:L2.Ends)(hs:List ExceptHandler) :
  fN (N5 X pins (Z5 X pins D hs)) { c with iC:=false,ie:=false } P (vi X Ξ.1 D hs) :=
 ⟨C.N,C.nd,C.loc,C.uo,C.xF,C.BC,C.cells,C.kL,C.calm,C.units,(λ_=>PassesOwn.looking),C.mono,C.con,C.blt,C.fns,C.cls,C.mW,C.lZ,C.uj,Si cR hf λC H' ⟨C',e,z⟩=>(by cases e;exact z),(λz=>by cases z),(λz=>by cases z),C.exc,C.xJ,C.rX,C.code⟩
end M

namespace M
open PySem L2 PySem.Spec PyProof.Rows
section
variable{X:Cx}{c:f7}{P:eG}{Ξ:fR}{r:CF}(S:nH P r)(C:fN X c P Ξ){a b d e:Expr}{m:ME}{pos:Pos}
include C
theorem MC{x:Str}(h:zS c x=some m):PE X (.Name x pos) (LE X.K Ξ (aR P m)):=by
 unfold zS at h;split at h
 ·rename_i fQ;obtain⟨d1,d2,d3⟩:=v8 fQ;split at h
  ·rename_i hv;obtain⟨i,hi,rfl⟩:=ae.mp h;exact ND (C.U2 hi) (C.zO hv) d1 d2
  ·split at h
   ·rename_i hg;rcases orElse_some h with h|h
    ·obtain⟨d,hd,rfl⟩:=ae.mp h;obtain⟨v,u,hm,r,rr⟩:=C.con x d hd;exact M4 (Q1 (C.o8 hg) hm r d1) rr
    ·split at h
     ·rename_i hb;obtain⟨t,ht,rfl⟩:=ae.mp h;exact M4 (v:=.ty t) (Vz (C.o8 hg) (C.blt x hb) (Tb ht) rfl d3 d1) λ_ _=>.ty t
     ·cases h
   ·cases h
 ·cases h
omit C in
theorem vU{k:Const}{j:Nat}{d:D}(h:V0 k=some d):PE X (.Constant k j pos) (LE X.K Ξ (aR P (.lit d))):=by
 cases k<;>first|(cases h;done)|skip
 ·cases h;exact M4 MX λ_ _=>.bw
 ·cases h;exact M4 KW λ_ _=>.bl _
 ·cases h;exact M4 EJ λ_ _=>.int _
 ·cases h;exact M4 EL λ_ _=>.str _
include S
theorem Qc{op:UnaryOp}(h:vw r c op a=some m):PE X (.UnaryOp op a pos) (LE X.K Ξ (aR P m)):=by
 unfold vw at h;split at h
 ·rename_i ho;subst ho;obtain⟨ma,ha,rfl⟩:=ae.mp h;exact NB C.mono (S.e X c Ξ C _ _ ha)
 ·obtain⟨ma,ha,rfl⟩:=R5 S C h;exact Lq C.mono ha
theorem F'{ops:List CmpOp}{bs:List Expr}(h:sI r c a ops bs=some m):PE X (.Compare a ops bs pos) (LE X.K Ξ (aR P m))/\PT X (.Compare a ops bs pos) (LT X.K Ξ (cW P (.dU m))):=by
 unfold sI at h;split at h
 ·rename_i op b;split at h
  ·cases h
  ·rename_i hm;have hm:behindInMarks op b=false:=by simpa using hm
   rcases orElse_some h with h|h
   ·obtain⟨neg,hn,h⟩:=ag.mp h;obtain⟨kvs,hk,h⟩:=ag.mp h;obtain⟨ma,ha,rfl⟩:=ae.mp h;obtain⟨x,p,rfl,hg,hd,hk⟩:=CO hk;have ho:op=if neg then .NotIn else .In:=by cases op<;>cases hn<;>rfl
    subst ho;exact⟨Nz C.mono (C.o8 hg) (v8 hd).1 (C.rX x kvs hk) (S.e X c Ξ C _ _ ha) hm,NM C.mono (C.o8 hg) (v8 hd).1 (C.rX x kvs hk) (S.e X c Ξ C _ _ ha) hm⟩
   ·obtain⟨ma,mb,ha,hb,rfl⟩:=R0 S C h;exact⟨yx C.mono (Fs (Q2 C.units op) ha hb hm),NO C.mono (Fy (Q2 C.units op) ha hb hm)⟩
 ·split at h
  ·cases h
  ·rename_i hm;obtain⟨ma,ha,h⟩:=ag.mp h;obtain⟨mb,hb,h⟩:=ag.mp h;obtain⟨md,hd,rfl⟩:=ae.mp h;exact⟨SH C.mono C.units (S.e X c Ξ C _ _ ha) (S.e X c Ξ C _ _ hb) (S.e X c Ξ C _ _ hd) (by simpa using hm),SU C.mono C.units (S.e X c Ξ C _ _ ha) (S.e X c Ξ C _ _ hb) (S.e X c Ξ C _ _ hd) (by simpa using hm)⟩
 ·cases h
theorem P'{lo hi st:Option Expr}{p2:Pos}(h:Au r c a lo hi st=some m):PE X (.Subscript a (.Slice lo hi st p2) pos) (LE X.K Ξ (aR P m)):=by
 cases lo<;>cases hi<;>cases st<;>first|(cases h;done)|skip
 ·obtain⟨ma,ha,rfl⟩:=R5 S C h;exact SO C.mono ha
 ·obtain⟨ma,mb,ha,hb,rfl⟩:=R0 S C h;exact SQ C.mono ha hb
 ·obtain⟨ma,mb,ha,hb,rfl⟩:=R0 S C h;exact SR C.mono ha hb
theorem KJ(h:zr r c a b=some m):PE X (.Subscript a b pos) (LE X.K Ξ (aR P m)):=by
 unfold zr at h;rcases orElse_some h with h|h
 ·obtain⟨q,hq,h⟩:=ag.mp h;have eb:∃p,b=.Slice q.1 q.2.1 q.2.2 p:=by cases b<;>first|(cases hq;exact⟨_,rfl⟩)|cases hq
  obtain⟨p,rfl⟩:=eb;exact P' S C h
 ·split at h
  ·rename_i hb;rcases orElse_some h with h|h
   ·obtain⟨kvs,hk,h⟩:=ag.mp h;obtain⟨mb,iW,rfl⟩:=ae.mp h;obtain⟨x,p,rfl,hg,hd,hk⟩:=CO hk;exact VY C.mono (C.o8 hg) (v8 hd).1 (C.rX x kvs hk) (S.e X c Ξ C _ _ iW) (uN hb)
   ·obtain⟨ma,mb,ha,iW,rfl⟩:=R0 S C h;exact yx C.mono (zI (Ku C.units) ha iW (uN hb))
  ·cases h
theorem Qa{x:Str}{px:Pos}(hg:c.gl x=true)(h:vx r c x e=some m):PE X (.Call (.Name x px) [e] [] pos) (LE X.K Ξ (aR P m)):=by
 unfold vx at h;obtain⟨q,hq,h'⟩:=ag.mp h;clear h;have h:=h';clear h';obtain⟨p,pos',rfl⟩:=P5 hq;obtain⟨y,as⟩:=q;dsimp only at h ⊢;split at h
 ·rename_i hc;simp only[Bool.and_eq_true,decide_eq_true_eq] at hc;obtain⟨⟨⟨⟨rfl,rfl⟩,hl⟩,hr⟩,pB⟩:=hc;rcases as with _|⟨a,_|⟨b,_|⟨_,_⟩⟩⟩
  ·cases h
  ·dsimp only at h;split at h
   ·rename_i ho;obtain⟨ma,ha,rfl⟩:=R5 S C h;exact SI C.mono C.calm ha (C.o8 hg) (C.blt _ hl) (C.o8 pB) (C.blt _ hr) (j5 ho)
   ·cases h
  ·dsimp only at h;split at h
   ·rename_i ho;rw[aW] at ho;obtain⟨ma,mb,ha,hb,rfl⟩:=R0 S C h;exact SJ C.mono C.calm ha hb (C.o8 hg) (C.blt _ hl) (C.o8 pB) (C.blt _ hr) (by rw[j5 ho.1,j5 ho.2];rfl) (j5 ho.2)
   ·cases h
  ·cases h
 ·split at h
  ·rename_i hc;simp only[Bool.and_eq_true,decide_eq_true_eq] at hc;obtain⟨⟨⟨⟨rfl,rfl⟩,hl⟩,hr⟩,pB⟩:=hc;rcases as with _|⟨a,_|⟨_,_⟩⟩
   ·cases h
   ·dsimp only at h;split at h
    ·rename_i ho;obtain⟨ma,ha,rfl⟩:=R5 S C h;exact Wc C.mono C.calm ha (C.o8 hg) (C.blt _ hl) (C.o8 pB) (C.blt _ hr) (j5 ho)
    ·cases h
   ·cases h
  ·split at h
   ·rename_i hc;simp only[Bool.and_eq_true,decide_eq_true_eq] at hc;obtain⟨⟨⟨⟨rfl,rfl⟩,hl⟩,hr⟩,pB⟩:=hc;rcases as with _|⟨a,_|⟨_,_⟩⟩
    ·cases h
    ·dsimp only at h;split at h
     ·rename_i ho;obtain⟨ma,ha,rfl⟩:=R5 S C h;exact VZ C.mono C.calm ha (C.o8 hg) (C.blt _ hl) (C.o8 pB) (C.blt _ hr) (j5 ho)
     ·cases h
    ·cases h
   ·cases h
theorem OS{x:Str}{px:Pos}{args:List Expr}(h:EY r c x args=some m):PE X (.Call (.Name x px) args [] pos) (LE X.K Ξ (aR P m)):=by
 cases args with
 |nil =>
  have h2:yC c x=some m:=h;unfold yC at h2;split at h2
  ·rename_i fQ;rw[aW] at fQ;rcases orElse_some h2 with h2|h2
   ·obtain⟨f,hf,rfl⟩:=ae.mp h2;obtain⟨k,fa,fd,ps,F,hr,hm,hk⟩:=C.fns x f hf;exact SG C.mono C.pass F hr (C.o8 fQ.2) hm hk (v8 fQ.1).1
   obtain⟨f,hf,rfl⟩:=ae.mp h2;obtain⟨k,C',fa,fd,ps,F,hr,hm,hC,jJ,M⟩:=C.cls x f hf;exact SK C.mono C.pass F M hC jJ hr (C.o8 fQ.2) hm (v8 fQ.1).1
  ·cases h2
 |cons e es =>
  have h0:yD r c x e es=some m:=h;clear h;have h:=h0;clear h0;unfold yD at h;split at h
  ·rename_i fQ;rw[aW] at fQ;obtain⟨d1,d2,d3⟩:=v8 fQ.1;rcases orElse_some h with h|h
   ·cases es with
    |nil=>exact Qa S C fQ.2 h
    |cons _ _=>cases h
   ·obtain⟨ms,lF,h⟩:=ag.mp h;have ok:=V1 lF;have pa:=oi S C lF;have cR:=j5 (env:=X.env) (es:=es) (ok e (by simp));have fm:=M1 (pos:=pos) (env:=X.env) (es:=es) λz hz=>ok z (by simp[hz]);rcases orElse_some h with h|h
    ·obtain⟨f,hf,rfl⟩:=ae.mp h;obtain⟨k,fa,fd,ps,F,hr,hm,hk⟩:=C.fns x f hf;exact VU C.mono C.pass F hr (C.o8 fQ.2) hm hk pa d1 cR fm
    ·rcases orElse_some h with h|h
     ·obtain⟨f,hf,rfl⟩:=ae.mp h;obtain⟨k,C',fa,fd,ps,F,hr,hm,hC,jJ,M⟩:=C.cls x f hf;exact V' C.mono C.pass F M hC jJ hr (C.o8 fQ.2) hm pa d1 cR fm
     ·split at h
      ·rename_i hb;obtain⟨p,hp,rfl⟩:=ae.mp h;obtain⟨v,hv,wN,hc⟩:=Ti (X:=X) C.calm hp;exact Nw C.mono hv hc (C.o8 fQ.2) (C.blt x hb) wN pa d3 d1 cR fm
      ·cases h
  ·cases h
theorem OR{o:Expr}{mt:Str}{apos:Pos}{args:List Expr}(h:yE r c o mt apos pos args=some m):PE X (.Call (.Attribute o mt apos) args [] pos) (LE X.K Ξ (aR P m)):=by
 unfold yE at h;split at h
 ·rename_i hc;simp only[Bool.and_eq_true,decide_eq_true_eq] at hc;obtain⟨⟨hb,hl⟩,hn⟩:=hc;obtain⟨mo,ho,h⟩:=ag.mp h;obtain⟨ms,lF,h⟩:=ag.mp h;have ok:=V1 lF;have pa:=oi S C lF;have po:=S.e X c Ξ C _ _ ho;have hf:methodCallForm args.length (backTo pos (starEach args X.env)) (backToKw pos (keywordEach [] X.env))=true:=by
   unfold methodCallForm;rw[Dd ok];have:args.length+0<30:=by omega
   show(true&&true&&decide (args.length+0<30))=true;rw[aM this]
   rfl
  by_cases rA:mt="index"
  ·subst rA;rw[aG rfl] at h;cases h
  rw[aE rA] at h;cases args with
  |nil =>
   cases lF;by_cases h0:(Z9.lookup mt).isSome=true
   ·rw[aG (by rw[h0];rfl)] at h;obtain⟨p,hp,rfl⟩:=ae.mp h;obtain⟨T,id,vP,sl,ty,vV,hk⟩:=Vb (X:=X) hp;exact SM C.mono vP sl ty vV hk po (L8 hb) hl
   rw[aE (by rw[aW];exact λz=>h0 z.2)] at h;split at h
   ·cases h
   ·cases h
  |cons e es =>
   have cR:=j5 (env:=X.env) (es:=es) (ok e (by simp));have fm:=M1 (pos:=pos) (env:=X.env) (es:=es) λz hz=>ok z (by simp[hz]);rw[aE (by simp)] at h;split at h
   ·rename_i p hp;cases h;obtain⟨T,id,vP,sl,ty,vV,hk⟩:=Ua (X:=X) C.units hp;exact Wa C.mono vP sl ty vV hk po pa (L8 hb) hf hl cR fm
   ·cases h
 ·cases h
theorem Fg:∀{ns:List Expr} {fs:List Nat},c.fnOf ns=some fs->∃iM,F4 X P Ξ.1 ns fs iM/\fs.length=ns.length
 |[],fs,h=>by cases h;exact⟨[],.nil,rfl⟩
 |e::es,fs,h=>by
  obtain⟨x,hx,h⟩:=ag.mp (show((asName e).bind λx=>if c.gl x&&K2 x then(c.fns.lookup x).bind λf=>(c.fnOf es).map λfs=>f::fs else none)=some fs from h);split at h
  ·rename_i hg;rw[aW] at hg;obtain⟨f,hf,h⟩:=ag.mp h;obtain⟨nz,h1,rfl⟩:=ae.mp h;obtain⟨iM,h2,h3⟩:=Fg h1;obtain⟨k,fa,fd,ps,F,hr,hm,hk⟩:=C.fns x f hf;cases e<;>first|(cases hx;done)|skip
   cases hx;exact⟨fa::iM,.cons (C.o8 hg.1) hm hk F hr (v8 hg.2).1 h2,by simp[h3]⟩
  ·cases h
theorem KI{ns:List Expr}{lp sp:Pos}{args:List Expr}(h:zp r c ns b args=some m):PE X (.Call (.Subscript (.List ns lp) b sp) args [] pos) (LE X.K Ξ (aR P m)):=by
 unfold zp at h;split at h
 ·rename_i hc;rw[aW] at hc;obtain⟨fs,Ib,h⟩:=ag.mp h;obtain⟨q,hq,h⟩:=ag.mp h;split at h
  ·rename_i hv;rw[aW] at hv;obtain⟨i,hi,h⟩:=ag.mp h;obtain⟨ms,lF,rfl⟩:=ae.mp h;obtain⟨iM,Sl,hl⟩:=Fg S C Ib;obtain⟨d1,d2,d3⟩:=v8 hv.1;have ok:=V1 lF;have pa:=oi S C lF;have hz:fs.length<=1000:=by rw[hl];exact aO (aY hc.2) (by decide)
   cases args with
   |nil=>cases hc.1
   |cons e es =>
    have cR:=j5 (env:=X.env) (es:=es) (ok e (by simp));have fm:=M1 (pos:=pos) (env:=X.env) (es:=es) λz hz=>ok z (by simp[hz]);unfold Ey at hq;split at hq
    ·cases hq;refine FD C.mono C.pass Sl hz (yq (C.U2 hi) (C.zO hv.2) d1 d2) (λZ H Q n h1 h2=>⟨_,h1,?_⟩) (uN rfl) pa cR fm;rw[Int.sub_zero] at h2;exact h2
    ·cases hq;exact FD C.mono C.pass Sl hz (M' (yq (C.U2 hi) (C.zO hv.2) d1 d2) EJ) (λZ H Q n h1 h2=>⟨_,h1,_,_,rfl,rfl,h2⟩) (uN rfl) pa cR fm
    ·cases hq
  ·cases h
 ·cases h
theorem AV{tg:Expr}(h:sQ r c tg e=some m):PI X tg e (LI X.K Ξ (fX P m)):=by
 unfold sQ at h;rcases orElse_some h with h|h
 ·obtain⟨q,hq,h'⟩:=ag.mp h;rename_i h0;clear h h0;have h:=h';clear h';obtain⟨p,pos',rfl⟩:=P5 hq;obtain⟨y,as⟩:=q;dsimp only at h ⊢;split at h
  ·rename_i hy;subst hy;rcases as with _|⟨a,_|⟨_,_⟩⟩
   ·cases h
   ·dsimp only at h;split at h
    ·rename_i hc;simp only[Bool.and_eq_true] at hc;obtain⟨⟨⟨hg,hb⟩,ho⟩,ht⟩:=hc;obtain⟨ma,ha,rfl⟩:=ae.mp h;obtain⟨es,k,tp,rfl⟩:=Tg ht;exact Wf C.mono (S.e X c Ξ C _ _ ha) (C.o8 hg) (C.blt _ hb) (j5 ho)
    ·cases h
   ·cases h
  ·split at h
   ·rename_i hy;subst hy;rcases as with _|⟨a,_|⟨_,_⟩⟩
    ·cases h
    ·dsimp only at h;split at h
     ·rename_i hc;simp only[Bool.and_eq_true] at hc;obtain⟨⟨hg,hb⟩,ho⟩:=hc;obtain⟨ma,ha,rfl⟩:=ae.mp h;exact NI C.mono (S.e X c Ξ C _ _ ha) (C.o8 hg) (C.blt _ hb) (j5 ho)
     ·cases h
    ·cases h
   split at h
   ·rename_i hy;subst hy;rcases as with _|⟨a,_|⟨b,_|⟨_,_⟩⟩⟩
    ·cases h
    ·dsimp only at h;split at h
     ·rename_i hc;simp only[Bool.and_eq_true] at hc;obtain⟨⟨hg,hb⟩,ho⟩:=hc;obtain⟨ma,ha,rfl⟩:=ae.mp h;exact Wg C.mono (S.e X c Ξ C _ _ ha) (C.o8 hg) (C.blt _ hb) (j5 ho)
     ·cases h
    ·dsimp only at h;split at h
     ·rename_i hc;simp only[Bool.and_eq_true] at hc;obtain⟨⟨⟨hg,hb⟩,ho⟩,jH⟩:=hc;obtain⟨ma,ha,h⟩:=ag.mp h;obtain⟨mb,iW,rfl⟩:=ae.mp h;exact Wh C.mono (S.e X c Ξ C _ _ ha) (S.e X c Ξ C _ _ iW) (C.o8 hg) (C.blt _ hb) (by rw[j5 ho,j5 jH];rfl) (j5 jH)
     ·cases h
    ·cases h
   ·cases h
 ·split at h
  ·obtain⟨ma,ha,rfl⟩:=ae.mp h;exact NJ C.mono (S.e X c Ξ C _ _ ha)
  ·cases h
theorem yW{elt:Expr}{gens:List Comprehension}{sc:Scope}(h:R8 r c elt gens sc=some m):∃tg it ifs t mi mc me cl,gens=[⟨tg,it,ifs,0⟩]/\m=.comp (c.d6 sc) (frees sc++locals sc).length t mi mc me/\eU it=true /\
  cP X sc (frees sc++locals sc) (c.d6 sc) cl/\PI X tg it (LI X.K Ξ (fX P mi))/\(∀pins A s H fp,PG (d7 X pins sc (frees sc++locals sc) cl A s H fp) tg (LG X.K t)) /\
   (∀pins A s H fp,ka (d7 X pins sc (frees sc++locals sc) cl A s H fp) ifs (LT X.K (mf Ξ.1) (cW P mc)))/\(∀pins A s H fp,PE (d7 X pins sc (frees sc++locals sc) cl A s H fp) elt (LE X.K (mf Ξ.1) (aR P me))):=by
 unfold R8 at h;rcases gens with _|⟨⟨tg,it,ifs,Bd⟩,_|⟨_,_⟩⟩
 ·cases h
 ·dsimp only at h;split at h
  ·rename_i hs;simp only[Bool.and_eq_true,decide_eq_true_eq] at hs;obtain⟨⟨hs,rfl⟩,hit⟩:=hs;obtain⟨t,h1,h⟩:=ag.mp h;obtain⟨mi,h2,h⟩:=ag.mp h;obtain⟨mc,h3,h⟩:=ag.mp h;obtain⟨me,h4,rfl⟩:=ae.mp h;obtain⟨cl,Sc,I⟩:=C.comp hs;exact⟨tg,it,ifs,t,mi,mc,me,cl,rfl,rfl,hit,Sc,AV S C h2,λpins A s H fp=>(I pins A s H fp).CC h1,λpins A s H fp=>Qb S (I pins A s H fp) h3,λpins A s H fp=>S.e _ _ _ (I pins A s H fp) elt me h4⟩
  ·cases h
 ·cases h
omit S in
theorem PZ{f:Expr}{args:List Expr}{ig:List Keyword}(h:tH c f args ig=some m):PE X (.Call f args ig pos) (LE X.K Ξ (aR P m)):=by
 unfold tH at h;cases h
theorem Hv:∀e m,Ge r c e=some m->PE X e (LE X.K Ξ (aR P m)):=by
 intro e m h;cases e with
 |Name x p=>exact MC C h
 |Constant k j p =>
  obtain⟨d,hd,rfl⟩:=ae.mp (show(V0 k).map ME.lit=some m from h);exact vU hd
 |BinOp a op b p =>
  obtain⟨ma,mb,ha,hb,rfl⟩:=R0 S C h;exact yx C.mono (K' (MH op) ha hb)
 |UnaryOp op a p=>exact Qc S C h
 |Compare a ops bs p=>exact(F' S C h).1
 |BoolOp op vs p=>exact Hx S C h
 |IfExp t a b p =>
  obtain⟨mt,ht,h⟩:=ag.mp h;obtain⟨ma,ha,h⟩:=ag.mp h;obtain⟨mb,hb,rfl⟩:=ae.mp h;exact NA C.mono (S.t X c Ξ C _ _ ht) (S.e X c Ξ C _ _ ha) (S.e X c Ξ C _ _ hb)
 |Tuple es k p =>
  obtain⟨ma,ha,rfl⟩:=ae.mp h;exact NC C.mono (oi S C ha)
 |List es p =>
  obtain⟨ma,ha,rfl⟩:=ae.mp h;exact ER C.mono (oi S C ha)
 |Subscript a b p=>exact KJ S C h
 |Dict ks vs p =>
  have h2:(if ks.isEmpty&&vs.isEmpty then some (ME.prim .U5 .nil) else if decide (ks.length<=15) then(sO r c ks vs).map .nE else none)=some m:=h;split at h2
  ·rename_i hc;cases ks<;>cases vs<;>first|(cases hc;done)|skip
   cases h2;exact VW
  ·rename_i hc;split at h2
   ·rename_i hl;obtain⟨ms,hm,rfl⟩:=ae.mp h2;obtain⟨gk,D⟩:=Hw S C hm;refine Nx C.mono D (λz=>hc ?_) (aY hl);have:=D.len.2;subst z;cases vs<;>first|rfl|cases this
   ·cases h2
 |JoinedStr vs p =>
  have h2:(if decide (2<=vs.length)&&decide (vs.length<=40) then(pT r c vs).map (ME.prim .kr) else none)=some m:=h;split at h2
  ·rename_i hc;simp only[Bool.and_eq_true,decide_eq_true_eq] at hc;obtain⟨ms,hm,rfl⟩:=ae.mp h2;obtain⟨ts,F⟩:=Hu S C hm;rcases vs with _|⟨v1,_|⟨v2,vs⟩⟩
   ·simp at hc
   ·simp at hc
   ·exact VX C.mono F hc.2
  ·cases h2
 |Attribute o f p =>
  have h2:(if uM o then c1 r c (.fld f) o else none)=some m:=h;split at h2
  ·rename_i hb;obtain⟨ma,ha,rfl⟩:=R5 S C h2;exact Ny C.mono ha (L8 hb)
  ·cases h2
 |Call f args ig pos =>
  have h1:((vy r c f args ig).orElse λ_=>(tH c f args ig).orElse λ_=>zR r c f args ig pos)=some m:=h;rcases orElse_some h1 with h2|h2
  ·unfold vy at h2;rcases args with _|⟨a,_|⟨_,_⟩⟩
   ·cases h2
   ·dsimp only at h2;split at h2
    ·rename_i hk;simp only[Bool.and_eq_true,decide_eq_true_eq] at hk;obtain⟨⟨⟨hk,hf⟩,lG⟩,hb⟩:=hk;cases ig<;>first|(cases hk;done)|skip
     obtain⟨q,hq,h3⟩:=ag.mp h2;obtain⟨m1,h4,h5⟩:=ag.mp h3;cases f<;>first|(cases hf;done)|skip
     cases a<;>first|(cases hq;done)|skip
     cases hf;cases hq;obtain⟨tg,it,ifs,t,mi,mc,me,cl,eg,rfl,hit,Sc,q1,q2,q3,q4⟩:=yW S C h4;dsimp only at eg;subst eg;cases h5;exact SN C.mono Sc C.calm q1 q2 q3 q4 (S6 hit) (C.o8 lG) (C.blt _ hb)
    ·cases h2
   ·cases h2
  clear h h1;rcases orElse_some h2 with h3|h3
  ·exact PZ C h3
  clear h2;unfold zR at h3;split at h3
  ·rename_i hk;cases ig<;>first|(cases hk;done)|skip
   cases f with
   |Name x p=>exact OS S C h3
   |Attribute o a p=>exact OR S C h3
   |Subscript a b sp =>
    cases a<;>first|(cases h3;done)|skip
    exact KI S C h3
   |_=>cases h3
  ·cases h3
 |Set es k p =>
  have h2:zq c es k=some m:=h;unfold zq at h2;split at h2
  ·rename_i hc;rw[aW] at hc;obtain rfl:=aY hc.2;split at h2
   ·cases h2;exact Wb C.mono (C.code hc.1)
   ·cases h2
  ·cases h2
 |ListComp elt gens sc p =>
  obtain⟨tg,it,ifs,t,mi,mc,me,cl,rfl,rfl,hit,Sc,q1,q2,q3,q4⟩:=yW S C h;exact(Ft Sc C.calm q1 q2 q3 q4 (S6 hit)).imp λZ H Q h=>CM C.mono Z H Q h
 |_=>cases h
theorem Hs:∀e m,stepT r c e=some m->PT X e (LT X.K Ξ (cW P m)):=by
 intro e m h;have plain:∀{e:Expr} {m:ME},(if X6 e then(r.e c e).map ME.dU else none)=some m->PT X e (LT X.K Ξ (cW P m)):=λ{e m} h=>by
  split at h
  ·rename_i hp;obtain⟨ma,ha,rfl⟩:=ae.mp h;exact NP C.mono (S.e X c Ξ C _ _ ha) (Ur hp)
  ·cases h
 cases e with
 |UnaryOp op a p =>
  have h2:(if op=.Not then(r.t c a).map ME.cO else none)=some m:=h;split at h2
  ·rename_i ho;subst ho;obtain⟨ma,ha,rfl⟩:=ae.mp h2;exact NN C.mono (S.t X c Ξ C _ _ ha)
  ·cases h2
 |BoolOp op vs p=>exact(Hr S C h).pt
 |Compare a ops bs p =>
  obtain⟨ma,ha,rfl⟩:=ae.mp (show(sI r c a ops bs).map ME.dU=some m from h);exact(F' S C ha).2
 |_=>exact plain h
end
end M

namespace M
open PySem L2 PySem.Spec PyProof.Rows
section
variable{X:Cx}{c:f7}{P:eG}{Ξ:fR}
theorem CK{e:Expr}{m:ME}(h:FT e=some m):PE X e (LE X.K Ξ (aR P m))/\eU e=true:=by
 cases e<;>first|(cases h;done)|skip
 obtain⟨d,hd,rfl⟩:=ae.mp (show(V0 _).map ME.lit=some m from h);exact⟨vU hd,rfl⟩
theorem Tv(hP:i5 P):∀{es:List Expr} {m:ME},uH es=some m->PA X es (LA X.K Ξ (eK P m)):=by
 intro es
 induction es with
 |nil=>intro m h;cases h;exact B7 hP
 |cons e es ih =>
  intro m h;unfold uH at h;obtain⟨m1,h1,h⟩:=ag.mp h;obtain⟨m2,h2,rfl⟩:=ae.mp h;exact t6 hP (CK h1).1 (ih h2) (j5 (CK (X:=X) (Ξ:=Ξ) (P:=P) h1).2)
theorem WE(hP:i5 P){e:Expr}{m:ME}(h:FR e=some m):PE X e (LE X.K Ξ (aR P m)):=by
 cases e<;>first|(cases h;done)|skip
 ·obtain⟨d,hd,rfl⟩:=ae.mp (show(V0 _).map ME.lit=some m from h);exact vU hd
 ·obtain⟨ms,hm,rfl⟩:=ae.mp h;exact ER hP (Tv hP hm)
theorem UK{h:ExceptHandler}{q:Str×Expr}(hq:yf h=some q):∃p p1 p2,h=.ExceptHandler (some (.Name q.1 p)) none [.Return (some q.2) p1] p2:=by
 obtain⟨t,n,b,p0⟩:=h;unfold yf at hq;cases n with
 |some _=>cases hq
 |none =>
  obtain⟨t,rfl,hq⟩:=ag.mp (show t.bind _=some q from hq);obtain⟨y,hy,hq⟩:=ag.mp hq;obtain⟨e,he,rfl⟩:=ae.mp hq;obtain⟨p,rfl⟩:=V4 hy;rcases b with _|⟨s,_|⟨_,_⟩⟩
  ·cases he
  ·cases s<;>first|(cases he;done)|(cases he;exact⟨_,_,_,rfl⟩)
  ·cases he
theorem WD(C:fN X c P Ξ)(wF:Z3 X Ξ.2):∀{hs:List ExceptHandler} {ms:List (Str×ME)},sP c hs=some ms->ky X Ξ P hs ms:=by
 intro hs
 induction hs with
 |nil=>intro ms h;cases h;exact .nil wF
 |cons hd hs ih =>
  intro ms h;unfold sP at h;obtain⟨q,hq,h'⟩:=ag.mp h;clear h;have h:=h';clear h';obtain⟨p,p1,p2,rfl⟩:=UK hq;obtain⟨y,e⟩:=q;dsimp only at h ⊢;split at h
  ·rename_i hc;simp only[Bool.and_eq_true] at hc;obtain⟨m,h1,h⟩:=ag.mp h;obtain⟨Xd,h2,rfl⟩:=ae.mp h;obtain⟨C',hm,hi,_⟩:=C.exc y hc.1.1;refine .cons (C.o8 hc.1.2) (v8 hc.2).1 hm (λx C1 hx h1=>C.xJ x y C1 C' ?_ hc.1.1 h1 hi) (λea=>WE (X:=A3 X ea) C.mono h1) (ih h2);rw[C.uj] at hx;simpa using hx
  ·cases h
theorem Vw{e f:Option Expr}{q:Str×Expr×List Expr}(h:yF e f=some q):f=none/\∃p p',e=some (.Call (.Name q.1 p) (q.2.1::q.2.2) [] p'):=by
 unfold yF at h;cases f with
 |some _=>cases h
 |none =>
  obtain⟨t,rfl,h⟩:=ag.mp (show e.bind _=some q from h);obtain⟨z,hz,h⟩:=ag.mp h;obtain⟨p,p',rfl⟩:=P5 hz;obtain⟨x,as⟩:=z;cases as with
  |nil=>cases h
  |cons a as=>cases h;exact⟨rfl,_,_,rfl⟩
theorem Ui{es:List Expr}{e:Expr}(h:c.uE es e=true):∃x px y py a b k p,es=[.Name x px,.Name y py]/\e=.Tuple [a,b] k p/\c.zl x px y py a b=true:=by
 rcases es with _|⟨s,_|⟨t,_|⟨_,_⟩⟩⟩
 ·cases h
 ·cases h
 ·cases s<;>first|(cases h;done)|skip
  cases t<;>first|(cases h;done)|skip
  cases e<;>first|(cases h;done)|skip
  rename_i l _ _;rcases l with _|⟨a,_|⟨b,_|⟨_,_⟩⟩⟩
  ·cases h
  ·cases h
  ·exact⟨_,_,_,_,_,_,_,_,rfl,rfl,h⟩
  ·cases h
 ·cases h
theorem OC(C:fN X c P Ξ){f:Str}:yd X.K f (c.vd f):=λy C' h hC=>by
 unfold f7.vd at h;obtain⟨⟨f',y'⟩,h1,h2⟩:=aT.mp h;obtain⟨h3,h4⟩:=cg.mp h1;cases h2;have:f'=f:=by simpa using h4
 subst this;exact C.lZ f' y' C' h3 hC
variable{r:CF}(S:nH P r)(C:fN X c P Ξ){pos:Pos}
include S C
theorem KH{tg e:Expr}{m:MS}(hS:∀e m,r.e c e=some m->o7 e=false->∃elt gens sc p,e=.ListComp elt gens sc p/\∃r',nH P r'/\R8 r' c elt gens sc=some m)(hT:∀a b k p m,r.e c (.Tuple [a,b] k p)=some m->∃r' ms,nH P r'/\A7 r' c [a,b]=some ms/\m=.prim .tup ms)(h:Cw r c tg e=some m):PS X (.Assign [tg] e pos) (LS X.K Ξ (wpS P m)):=by
 cases tg with
 |Name x px =>
  have h2:(if c.q9 x then(c.idx x).bind λi=>(r.e c e).map λm=>MS.set i m else none)=some m:=h;split at h2
  ·rename_i hl;obtain⟨i,hi,h2⟩:=ag.mp h2;obtain⟨me,he,rfl⟩:=ae.mp h2;cases hn:o7 e with
   |true=>exact EV C.mono (EN C.oh (C.U2 hi) (C.q9 hl).1 (S.e X c Ξ C _ _ he) (N8 hn) (C.q9 hl).2)
   |false =>
    obtain⟨elt,gens,sc,p,rfl,r',S',hx⟩:=hS e me he hn;obtain⟨tg,it,ifs,t,mi,mc,me,cl,rfl,rfl,hit,Sc,q1,q2,q3,q4⟩:=yW S' C hx;refine EV C.mono ?_;exact(QR Sc C.calm q1 q2 q3 q4 (S6 hit) C.oh (C.U2 hi) (C.q9 hl).1 (C.q9 hl).2).imp λN Z H h=>CM C.mono Z H _ h
  ·cases h2
 |Tuple es k pt =>
  have h0:((yg es).elim (if(Z8 e&&o7 e)||c.uE es e then(c.slots es).bind λis=>(r.e c e).map λm=>MS.jP (.many is) m else none) λq=>if o7 e&&eU q.2.1&&eU q.2.2.2 then(r.e c q.1).bind λm1=>(r.e c q.2.1).bind λn1=>(r.e c q.2.2.1).bind λm2=>(r.e c q.2.2.2).bind λn2=>(r.e c e).map λm=>MS.tL m1 n1 m2 n2 m else none)=some m:=h;cases hq:yg es with
  |some q =>
   rw[hq] at h0;dsimp only[Option.elim] at h0;split at h0
   ·cases hq
   ·cases h0
  |none =>
  rw[hq] at h0;have h2:(if(Z8 e&&o7 e)||c.uE es e then(c.slots es).bind λis=>(r.e c e).map λm=>MS.jP (.many is) m else none)=some m:=h0;split at h2
  ·rename_i hn;rw[dG,aW] at hn;obtain⟨is,hs,h2⟩:=ag.mp h2;obtain⟨me,he,rfl⟩:=ae.mp h2;rcases hn with hn|hn
   ·exact NV C.mono (EM (S.e X c Ξ C _ _ he) (FF C.calm C.oh (C.slots hs)) (Ep hn.2) (Sd hn.1))
   ·obtain⟨x,px,y,py,a,b,k2,mU,rfl,rfl,hk⟩:=Ui hn
    ·unfold f7.zl at hk;simp only[Bool.and_eq_true,decide_eq_true_eq,Bool.not_eq_true'] at hk;obtain⟨⟨⟨⟨⟨⟨⟨l1,l2⟩,dO⟩,hl⟩,oa⟩,ob⟩,f1⟩,f2⟩:=hk;obtain⟨r',ms,S',lF,rfl⟩:=hT _ _ _ _ _ he;have so:=C.slots hs;cases so with
     |cons hi _ _ so =>
     cases so with
     |cons hj _ _ so =>
     cases so;exact NT C.mono C.calm C.oh hi hj dO hl (C.loc x l1) (C.loc y l2) oa ob f1 f2 (oi S' C lF)
  ·cases h2
 |Subscript o i pt =>
  have h2:(if eU i&&o7 e then(r.e c o).bind λmo=>(r.e c i).bind λmi=>(r.e c e).map λm=>MS.dz mo mi m else none)=some m:=h;split at h2
  ·rename_i hn;rw[aW] at hn;obtain⟨mo,ho,h2⟩:=ag.mp h2;obtain⟨mi,hi,h2⟩:=ag.mp h2;obtain⟨me,he,rfl⟩:=ae.mp h2;exact SW C.mono C.units (S.e X c Ξ C _ _ he) (S.e X c Ξ C _ _ ho) (S.e X c Ξ C _ _ hi) (Ep hn.2) (OV hn.1)
  ·cases h2
 |Attribute o f pt =>
  have h2:(if o7 e then(r.e c o).bind λmo=>(r.e c e).map λm=>MS.gy f (c.vd f) mo m else none)=some m:=h;split at h2
  ·rename_i hn;obtain⟨mo,ho,h2⟩:=ag.mp h2;obtain⟨me,he,rfl⟩:=ae.mp h2;exact Wo C.mono (OC C) (S.e X c Ξ C _ _ ho) (S.e X c Ξ C _ _ he) (N8 hn)
  ·cases h2
 |_=>cases h
theorem Ht(hS:∀e m,r.e c e=some m->o7 e=false->∃elt gens sc p,e=.ListComp elt gens sc p/\∃r',nH P r'/\R8 r' c elt gens sc=some m)(hT:∀a b k p m,r.e c (.Tuple [a,b] k p)=some m->∃r' ms,nH P r'/\A7 r' c [a,b]=some ms/\m=.prim .tup ms) :
  ∀st m,Gf r c st=some m->PS X st (LS X.K Ξ (wpS P m)):=by
 intro st m h;have hP:=C.mono;cases st with
 |AugAssign tg op e p =>
  cases tg with
  |Name x tp =>
   have h2:(if c.q9 x then(FP op).bind λp=>(c.idx x).bind λi=>(r.e c e).map λm=>MS.jr i p m else none)=some m:=h;split at h2
   ·rename_i hl;obtain⟨p,hp,h2⟩:=ag.mp h2;obtain⟨i,hi,h2⟩:=ag.mp h2;obtain⟨me,he,rfl⟩:=ae.mp h2;refine Wm C.mono ?_ C.oh (C.U2 hi) (C.q9 hl).1 (C.q9 hl).2 (S.e X c Ξ C _ _ he);cases op<;>first|(cases hp;done)|skip
    ·cases hp;exact .inl ⟨rfl,rfl⟩
    ·cases hp;exact .inr ⟨rfl,rfl⟩
   ·cases h2
  |_=>cases h
 |Expr e p =>
  have h2:(if o7 e then(r.e c e).map MS.expr else none)=some m:=h;split at h2
  ·rename_i hn;obtain⟨me,he,rfl⟩:=ae.mp h2;exact Wn hP (S.e X c Ξ C _ _ he) (N8 hn)
  ·cases h2
 |Assign vI e p =>
  rcases vI with _|⟨tg,_|⟨_,_⟩⟩
  ·cases h
  ·exact KH S C hS hT h
  ·cases h
 |If t a b p =>
  obtain⟨mt,ht,h⟩:=ag.mp h;obtain⟨ma,ha,h⟩:=ag.mp h;obtain⟨mb,hb,rfl⟩:=ae.mp h;exact Lw hP (S.t X c Ξ C _ _ ht) (pP S C ha) (pP S C hb)
 |For tg it body mK p =>
  have h2:(if c.kL&&(mK.isEmpty&&eU it) then(c.tg tg).bind λt=>(sQ r c tg it).bind λmi=>(n6 r c body).map λmb=>MS.cH t mi mb else none)=some m:=h;split at h2
  ·rename_i hc;rw[aW,aW] at hc;cases mK<;>first|(cases hc.2.1;done)|skip
   obtain⟨t,h1,h2⟩:=ag.mp h2;obtain⟨mi,h3,h2⟩:=ag.mp h2;obtain⟨mb,h4,rfl⟩:=ae.mp h2;exact NS hP (C.own hc.1) C.calm (AV S C h3) (C.CC h1) (pP S C h4) (S6 hc.2.2)
  ·cases h2
 |While t body mK p =>
  have h2:(if c.kL&&mK.isEmpty then(r.t c t).bind λmt=>(n6 r c body).map λmb=>MS.jD mt mb else none)=some m:=h;split at h2
  ·rename_i hc;rw[aW] at hc;cases mK<;>first|(cases hc.2;done)|skip
   obtain⟨mt,h1,h2⟩:=ag.mp h2;obtain⟨mb,h4,rfl⟩:=ae.mp h2;exact SX hP (C.own hc.1) (S.t X c Ξ C _ _ h1) (pP S C h4)
  ·cases h2
 |Return e p =>
  cases e with
  |none=>cases h;exact(VL (X:=X)).imp λN bA H ⟨Z,g,ρ,s,R,h⟩=>LQ.now h R .bw
  |some e =>
   obtain⟨me,he,rfl⟩:=ae.mp (show(r.e c e).map (λm=>MS.ret (toR c e m))=some m from h);refine EU hP ?_;exact S.e X c Ξ C _ _ he
 |Raise e f p =>
  obtain⟨q,hq,h2⟩:=ag.mp h;clear h;obtain⟨rfl,px,p2,rfl⟩:=Vw hq;obtain⟨x,e,es⟩:=q;dsimp only at h2 ⊢;split at h2
  ·rename_i hc;simp only[Bool.and_eq_true] at hc;obtain⟨ma,ha,rfl⟩:=ae.mp h2;have ok:=V1 ha;obtain⟨C',hm,hi,B,nI,iI,bm,O,FB⟩:=C.exc x hc.1.1.2;exact SV hP C.calm O FB (C.o8 hc.1.2) (oi S C ha) (C.iC hc.1.1.1) (by rw[C.uj];simpa using hc.1.1.2) hi (j5 (ok e (by simp))) (M1 λz hz=>ok z (by simp[hz])) (v8 hc.2).1
  ·cases h2
 |Try body hs el fi p =>
  have h2:(if c.ie&&!hs.isEmpty&&el.isEmpty&&fi.isEmpty then(n6 r { c with iC:=false,ie:=false } body).bind λmb=>(sP c hs).map λms=>MS.S0 mb ms else none)=some m:=h;split at h2
  ·rename_i hc;simp only[Bool.and_eq_true] at hc;obtain⟨⟨⟨ht,hh⟩,he⟩,hf⟩:=hc;cases el<;>first|(cases he;done)|skip
   cases fi<;>first|(cases hf;done)|skip
   cases hs<;>first|(cases hh;done)|skip
   obtain⟨mb,h1,h2⟩:=ag.mp h2;obtain⟨ms,h3,rfl⟩:=ae.mp h2;obtain⟨cR,hf,wF⟩:=C.ie ht;exact NU hP cR hf (λpins D=>pP S (C.S0 cR hf pins D _) h1) (WD C wF h3)
  ·cases h2
 |Pass p=>cases h;exact(VJ (X:=X)).imp λN bA H ⟨Z,g,ρ,s,R,h⟩=>h ρ H bA (.refl _ _) R s
 |_=>cases h
end
theorem QF{n:Nat}{c:f7}{e:Expr}{m:ME}(h:(comp (n+1)).e c e=some m)(hn:o7 e=false):∃elt gens sc p,e=.ListComp elt gens sc p/\R8 (comp n) c elt gens sc=some m:=by
 cases e<;>first|(cases hn;done)|(cases h;done)|exact⟨_,_,_,_,rfl,h⟩
theorem snd{P:eG}:∀n,(∀k,k<=n->nH P (comp k)):=by
 intro n
 induction n with
 |zero =>
  intro k hk;obtain rfl:=Nat.le_zero.mp hk;exact⟨λ_ _ _ _ _ _ h=>(by cases h),λ_ _ _ _ _ _ h=>(by cases h),λ_ _ _ _ _ _ h=>(by cases h)⟩
 |succ n ih =>
  intro k hk;rcases Nat.lt_or_ge k (n+1) with dR|Ia
  ·exact ih k (by omega)
  obtain rfl:k=n+1:=by omega
  have I:=ih n (ak n);refine⟨λX c Ξ C e m h=>Hv I C e m h,λX c Ξ C e m h=>Hs I C e m h,λX c Ξ C st m h=>?_⟩;rcases orElse_some h with h|h
  rotate_left
  ·cases h;exact λpins s Z H D I q=>by obtain⟨_,_,_,_,_,z⟩:=q;exact(show False from z).elim
  refine Ht I C (λe m he hn=>?_) (λa b k p m he=>?_) st m h
  ·cases n with
   |zero=>cases he
   |succ n =>
    obtain⟨elt,gens,sc,p,rfl,hx⟩:=QF he hn;exact⟨_,_,_,_,rfl,comp n,ih n (by omega),hx⟩
  ·cases n with
   |zero=>cases he
   |succ n =>
    obtain⟨ms,hm,rfl⟩:=ae.mp (show(A7 (comp n) c [a,b]).map (ME.prim .tup)=some m from he);exact⟨comp n,ms,ih n (by omega),hm,rfl⟩
end M

namespace M
open PySem L2 PySem.Spec PyProof.Rows
structure mL where
 nm:Str
 qn:Str
 N:List Str
 ps:List Str
 st:Stmt
def f7.at(c:f7)(d:mL):f7:={ c with N:=d.N,nm:=(k8 d.st).names,kL:=true,iC:=true,ie:=true }
structure iw(K:PySem.W.Frag)(c:f7)(d:mL)(m:aN)(f:Addr)(fd:FuncData):Prop where
 fn:nJ K d.nm d.qn d.st f fd
 bi:Binds K fd d.ps []
 sc:gH d.N d.ps (k8 d.st)
 co:n6 (comp 60) (c.at d) (k9 d.st)=some m.body
 ar:m.ar=d.ps.length
 nn:m.n=d.N.length
structure lQ(w:World)(K:PySem.W.Frag)(mg:Str->Option Value)(c:f7)(T:Nat->Option aN):Prop where
 fns:∀x i,c.fns.lookup x=some i->∃d m f fd,T i=some m/\iw K c d m f fd/\mg x=some (.ref f)
 cls:∀x i,c.cls.lookup x=some i->∃C d m f fd,T i=some m/\iw K c d m f fd/\mg x=some (.ref C)/\m5 K x C/\iY K C/\Mk K C f
 mW:∀x y i C,(x,y,i)∈c.mW->m5 K y C->∃d m f fd,T i=some m/\iw K c d m f fd/\Meth K C x f
 lZ:∀f y C,(f,y)∈c.lZ->m5 K y C->u6 K C f
 con:∀x d,c.con.lookup x=some d->∃v u,mg x=some u/\RelV v u/\∀ρ H,d8 K ρ H d v
 blt:∀x,c.blt.contains x=true->mg x=none
 xK:∀x,c.exc.contains x=true->∃C,mg x=some (.ref C)/\m5 K x C/\∀base:Heap,K.In base->base.Ns mainGlobals mg->∃B newId fx bm,OwnCls x C bm newId mg base/\ExcBaseFacts B newId fx bm
 xI:∀x y C C',c.exc.contains x=true->c.exc.contains y=true->m5 K x C->m5 K y C'->PySem.W.exmOne K (.ref C) (.ref C')=some (decide (x=y\/y="MintError"))
 oH:∀x kvs,c.gd.lookup x=some kvs->∃A vs,mg x=some (.ref A)/\sJ K w.params A vs/\Z4 K kvs vs
section
variable{Pg:Program}{w:World}{K:PySem.W.Frag}{mg:Str->Option Value}{base:Heap}{c:f7}{T:Nat->Option aN}
theorem Mo{K:PySem.W.Frag}{cd:Value}{q:Str}(h:PySem.W.codeIn K cd q=true):PySem.W.kdsCode K cd=true:=by
 unfold PySem.W.codeIn at h;unfold PySem.W.kdsCode;split at h
 ·dsimp only;split at h
  ·rename_i e;rw[e]
  ·cases h
 ·cases h
theorem Vy{N:List Str}{qual:Str}{scope:Scope}{f:Addr}{cd:Value}{A:Around}{outer:List Env}{s:Shared}{H:Hp}{E:XK}:Passes (gI Pg w) (U7 (gI Pg w) Pg w K mg base N qual scope f cd A outer s H E) E:=λpins Z H1 s1 e s' I h=>by
 obtain⟨C,H',J,fl,hE⟩:=I.flew h;exact Ri J fl (λb o q=>I.base.there b o q (by intro z;cases z)) rfl rfl rfl hE
theorem SE{N:List Str}{qual:Str}{scope:Scope}{f:Addr}{cd:Value}{A:Around}{outer:List Env}{s:Shared}{H:Hp}{E:XK}:uU (U7 (gI Pg w) Pg w K mg base N qual scope f cd A outer s H E) E:=λpins Z H1 s1 h' ea C vs I hm hE =>
 UW I hm rfl rfl rfl hE
theorem OE{N:List Str}{qual:Str}{scope:Scope}{f:Addr}{cd:Value}{A:Around}{outer:List Env}{s:Shared}{H:Hp}{E:XK}:Z3 (U7 (gI Pg w) Pg w K mg base N qual scope f cd A outer s H E) E:=λpins Z H1 H2 s1 s2 B ea C a0 I l hh hE =>
 leave_held I l hh rfl rfl rfl hE
theorem yH{k i:Nat}{m:aN}(hT:T i=some m){ds:List D}{g:G}{Q:KD}{E:KX}(h:b9 T k i ds g Q E):ds.length=m.ar:=by
 cases k with
 |zero=>exact h.elim
 |succ k =>
  obtain⟨m',e,h,_⟩:=h;rw[hT] at e;cases e;exact h
theorem L'(lA:K.In base)(rV:base.Ns mainGlobals mg)(A:lQ w K mg c T):∀(k i:Nat) d m f fd,T i=some m->iw K c d m f fd->gg Pg w K mg base (gI Pg w) (2*k) f fd d.ps (mS c.exc K d.ps.length (b9 T k i)):=by
 intro k
 induction k with
 |zero =>
  intro i d m f fd hm O;refine⟨λvs H Q E h=>h.1,λA outer s H args us vs Q E _ _ _ _ h=>?_⟩;obtain⟨_,_,_,_,_,_,q⟩:=h;exact q.elim
 |succ k ih =>
  intro i d m f fd hm O;obtain⟨oc,od,kV,doc,pm,an,eM,ct,kJ,rfl,lk,kq⟩:=O.fn.ex;refine Kk (k:=2*k+1) lk kq O.sc (λvs H Q E h=>h.1) (λA0 outer s H vs Q E hr h=>?_);obtain⟨hl,xs,g,ρ,rs,R,q⟩:=h;have C:fN (U7 (gI Pg w) Pg w K mg base d.N d.qn (k8 d.st) f eM A0 outer s H E) (c.at d) (b9 T k) (c.exc,E):=by
   refine⟨rfl,O.sc.nd,λx h=>h,λx h=>h,λx h=>.inr h,λx h=>h,λx h=>?_,λ_ _=>rfl,rfl,?_,(λ_=>PassesOwn.leaving),c8 T k,A.con,A.blt,λx j hj=>?_,λx j hj=>?_,λx y j C' hj hC=>?_,A.lZ,rfl,Vy,λ_=>SE,λ_=>⟨rfl,rfl,OE⟩,λx hx=>?_,A.xI,A.oH,λ_=>Mo kq⟩
   ·rcases h with h|h
    ·exact yY h
    ·exact absurd rfl (O.sc.lq _ (aI h))
   ·have:=hr.un;show(A0.deeper _).units+100<cLine;omega
   ·obtain⟨d',m',f',nB,hT,O',hmg⟩:=A.fns x j hj;exact⟨2*k,f',nB,d'.ps,⟨ih j d' m' f' nB hT O',O'.bi,λBV g' Q' E' h'=>(yH hT h').trans O'.ar⟩,hr.mono (by omega),hmg,O'.fn.kp⟩
   ·obtain⟨C',d',m',f',nB,hT,O',hmg,hC,jJ,M⟩:=A.cls x j hj;exact⟨2*k,C',f',nB,d'.ps,⟨ih j d' m' f' nB hT O',O'.bi,λBV g' Q' E' h'=>(yH hT h').trans O'.ar⟩,hr,hmg,hC,jJ,M⟩
   ·obtain⟨d',m',f',nB,hT,O',M⟩:=A.mW x y j C' hj hC;exact⟨2*k,f',nB,d'.ps,M,⟨ih j d' m' f' nB hT O',O'.bi,λBV g' Q' E' h'=>(yH hT h').trans O'.ar⟩,hr.mono (by omega)⟩
   ·obtain⟨C,h1,h2,h3⟩:=A.xK x hx;exact⟨C,h1,h2,h3 base lA rV⟩
  refine⟨_,pP (snd (P:=b9 T k) 60 60 (ak _)) C O.co,?_⟩;obtain⟨m',e,q1,q⟩:=q;rw[hm] at e;cases e;refine⟨d4 m xs,g,ρ,?_,R,wpS_mono (c8 T k) m.body ⟨λ_ g'=>LQ K ρ H Q .bw g',LQ K ρ H Q,λ_ _=>False,λ_ _=>False⟩ _ _ _ _ _ ⟨λZ g' h bq H' cA e R' s'=>h bq H' _ e R' .bw,λd g' h=>h,λ_ _ h=>h.elim,λ_ _ h=>h.elim⟩ (λ_ _ z=>z) q⟩;have:=k7.start (n:=d.N.length) rs;unfold d4 L2.start;rw[O.nn];exact this
theorem Mu{L k0:Nat}{H:Hp}{a:Addr}{ns:List Int}(hO:vc H)(hS:eQ K H a (ns.map V.int))(h:b9 T k0 L [.ref 0] [.mJ (ns.map .int)] (λd _=>d=.bl true) iP) :
  mS exc K 1 (b9 T k0 L) [.ref a] H (λv _=>v=.bl true) λ_ _ _=>False:=by
 refine⟨rfl,[.ref 0],[.mJ (ns.map .int)],[a],.cons (.ref rfl) .nil,⟨rfl,λi o b h1 h2=>?_,λi j l m b h1 h2 m1=>?_⟩,c8 T k0 _ _ _ _ _ _ _ (λd g' e bq H' v _ _ r=>?_) (λ_ _ z=>z.elim) h⟩
 ·cases i with
  |zero =>
   cases h1;cases h2;refine⟨_,?_,b8.ofInts ns⟩;rcases hS with(z|⟨o,z⟩)|z
   ·rcases hO a with q|⟨o,xs,q⟩
    ·rw[z] at q;cases q
    ·rw[z] at q;cases q
   ·exact .inl ⟨o,z⟩
   ·exact .inr z
  |succ i=>simp at h1
 ·cases i with
  |zero=>cases h1;cases m1
  |succ i=>simp at h1
 ·subst e;cases r
  rfl
end
end M

namespace M
open PySem L2
section
variable{P:eG}{Z:S}{g:G}{Q:KD}{E:KX}{N:Ends}{a b c o:ME}{x y:MS}{p:Pr}
theorem E0(h:N.nx Z g):wpS P .pass N Z g E:=h
theorem zQ(h:wpS P x ⟨λgh g1=>wpS P y N gh g1 E,N.rt,N.bk,N.ct⟩ Z g E):wpS P (.seq x y) N Z g E:=h
theorem P7(h:wpS P x N Z g E):wpS P (.seq x .pass) N Z g E:=h
theorem Og(h:aR P a Z g (λ_ g1=>N.nx Z g1) E):wpS P (.expr a) N Z g E:=h
theorem sT{i:Nat}(h:aR P a Z g (λx g1=>N.nx (Z.set i (some x)) g1) E):wpS P (.set i a) N Z g E:=h
theorem LW{t:MT}(h:aR P a Z g (λx g1=>iV t x Z λgh=>N.nx gh g1) E):wpS P (.jP t a) N Z g E:=h
theorem FH{o i:ME}(h:aR P a Z g (λx g1=>aR P o Z g1 (λy g2=>aR P i Z g2 (λz g3=>S1 y z x g3 λg4=>N.nx Z g4) E) E) E):wpS P (.dz o i a) N Z g E:=h
theorem Gj(h:cW P c Z g (λt g1=>if t=true then wpS P x N Z g1 E else wpS P y N Z g1 E) E):wpS P (.ifs c x y) N Z g E:=h
theorem LR(h:aR P a Z g N.rt E):wpS P (.ret a) N Z g E:=h
theorem Ws{x:Str}(h:eK P a Z g (λvs g1=>vs.length<=1000/\E ⟨x⟩ g1) E):wpS P (.raise x a) N Z g E:=h
theorem LV{hs:List (Str×ME)}(h:wpS P x N Z g (kf P N (Z.map λ_=>none) E hs)):wpS P (.S0 x hs) N Z g E:=h
theorem uA{x:Xn}{y:Str}{e:ME}{r:List (Str×ME)}(hx:x.cls=y)(h:aR P e Z g N.rt iP):kf P N Z E ((y,e)::r) x g:=by unfold kf;rw[aG (.inl hx)];exact h
theorem Q8{x:Xn}{y:Str}{e:ME}{r:List (Str×ME)}(hx:¬(x.cls=y\/y="MintError"))(h:kf P N Z E r x g):kf P N Z E ((y,e)::r) x g:=by unfold kf;rw[aE hx];exact h
theorem w_var{i:Nat}{d:D}(e:Z[i]?=some (some d))(h:Q d g):aR P (.var i) Z g Q E:=by exact⟨d,e,h⟩
theorem w_lit{d:D}(h:Q d g):aR P (.lit d) Z g Q E:=h
theorem Oi(h:eK P a Z g (λxs g1=>cF p xs g1 Q) E):aR P (.prim p a) Z g Q E:=h
theorem JX(h:cF p [] g Q):aR P (.prim p .nil) Z g Q E:=by exact h
theorem CG(h:aR P a Z g (λx g1=>cF p [x] g1 Q) E):aR P (.prim p (.cons a .nil)) Z g Q E:=by exact h
theorem vh(h:aR P a Z g (λx g1=>aR P b Z g1 (λy g2=>cF p [x,y] g2 Q) E) E):aR P (.prim p (.cons a (.cons b .nil))) Z g Q E:=by exact h
theorem Wr{o1 o2:CmpOp}(h:aR P a Z g (λx g1=>aR P b Z g1 (λy g2=>cF (.cmp o1) [x,y] g2 λz g3=>∃t,z=.bl t/\if t=true then aR P c Z g3 (λw g4=>cF (.cmp o2) [y,w] g4 Q) E else Q (.bl false) g3) E) E):aR P (.chain o1 o2 a b c) Z g Q E:=h
theorem w_and(h:aR P a Z g (λx g1=>∃t,x=.bl t/\if t=true then aR P b Z g1 Q E else Q (.bl false) g1) E):aR P (.cB a b) Z g Q E:=h
theorem w_not(h:aR P a Z g (λx g1=>∃t,x=.bl t/\Q (.bl (!t)) g1) E):aR P (.cO a) Z g Q E:=h
theorem w_ite(h:cW P c Z g (λt g1=>if t=true then aR P a Z g1 Q E else aR P b Z g1 Q E) E):aR P (.ite c a b) Z g Q E:=h
theorem yB{f:Nat}(h:eK P a Z g (λxs g1=>P f xs g1 Q E) E):aR P (.call f a) Z g Q E:=h
theorem uS{fs:List Nat}{i:Nat}{n k:Int}{f:Nat}(h1:Z[i]?=some (some (.int n)))(h2:fB fs (n-k)=some f)(h:eK P a Z g (λxs g1=>P f xs g1 Q E) E):aR P (.iB fs i k a) Z g Q E:=⟨n,f,h1,h2,h⟩
theorem Oh(h:aR P o Z g (λx g1=>lz p x g1/\eK P a Z g1 (λxs g2=>cF p (x::xs) g2 Q) E) E):aR P (.dM p o a) Z g Q E:=h
theorem zP{Q:List D->G->Prop}(h:Q [] g):eK P .nil Z g Q E:=h
theorem X0{Q:List D->G->Prop}(h:aR P a Z g (λx g1=>eK P b Z g1 (λxs g2=>Q (x::xs) g2) E) E):eK P (.cons a b) Z g Q E:=h
theorem Oj{Q:Bool->G->Prop}(h:cW P a Z g (λt g1=>if t=true then cW P b Z g1 Q E else Q false g1) E):cW P (.cB a b) Z g Q E:=h
theorem LU{Q:Bool->G->Prop}(h:cW P a Z g (λt g1=>if t=true then Q true g1 else cW P b Z g1 Q E) E):cW P (.jg a b) Z g Q E:=h
theorem Ol{Q:Bool->G->Prop}(h:cW P a Z g (λt g1=>Q (!t) g1) E):cW P (.cO a) Z g Q E:=h
theorem Gk{Q:Bool->G->Prop}(h:Q true g):cW P .no Z g Q E:=h
theorem Gm{Q:Bool->G->Prop}(h:aR P a Z g (λx g1=>oV g1 x λb=>Q b g1) E):cW P (.dU a) Z g Q E:=h
end
section
variable{g:G}{Q:KD}{i j:Int}{kb:Bool->Prop}{t s:Bool}{l m:List D}
theorem JZ(h:Q (.int (i+j)) g):cF (.bin .Add) [.int i,.int j] g Q:=⟨_,_,.inl ⟨i,j,_,rfl,rfl,rfl,rfl⟩,h⟩
theorem J'(h:Q (.int (i-j)) g):cF (.bin .Sub) [.int i,.int j] g Q:=⟨_,_,.inl ⟨i,j,_,rfl,rfl,rfl,rfl⟩,h⟩
theorem L4(c:oR i j)(h:Q (.int (i*j)) g):cF (.bin .Mult) [.int i,.int j] g Q:=⟨_,_,.inl ⟨i,j,_,rfl,⟨c,rfl⟩,rfl,rfl⟩,h⟩
theorem L5(c:0<j)(h:Q (.int (i % j)) g):cF (.bin .Mod) [.int i,.int j] g Q:=⟨_,_,.inl ⟨i,j,_,rfl,⟨c,rfl⟩,rfl,rfl⟩,h⟩
theorem ur(c:zT i j)(h:Q (.int (i / j)) g):cF (.bin .FloorDiv) [.int i,.int j] g Q:=⟨_,_,.inl ⟨i,j,_,rfl,⟨c,rfl⟩,rfl,rfl⟩,h⟩
theorem LZ(h1:0<j)(h2:j<1073741824)(h:Q (.int (i / j)) g):cF (.bin .FloorDiv) [.int i,.int j] g Q:=ur ⟨h1,h2⟩ h
theorem uu(c:V8 i j)(h:Q (.int (i ^ j.toNat)) g):cF (.bin .Pow) [.int i,.int j] g Q:=⟨_,_,.inl ⟨i,j,_,rfl,⟨c,rfl⟩,rfl,rfl⟩,h⟩
theorem sN{i j:Nat}(hi:g[i]?=some (.lst l))(hj:g[j]?=some (.lst m))(hl:l.length+m.length<=100000)(h:Q (.ref g.length) (g++[.lst (l++m)])):cF (.bin .Add) [.ref i,.ref j] g Q:=⟨_,_,.inr (.inl ⟨rfl,.inr (.inl ⟨i,j,l,m,rfl,hi,hj,hl,rfl,rfl⟩)⟩),h⟩
theorem Kc{i:Nat}{n:Int}(hi:g[i]?=some (.lst l))(h1:-(2 ^ 62)<=n)(h2:n<2 ^ 62)(hl:l.length*n.toNat<=100000)(h:Q (.ref g.length) (g++[.lst (List.replicate n.toNat l).flatten])):cF (.bin .Mult) [.ref i,.int n] g Q:=⟨_,_,.inr (.inr ⟨rfl,.inl ⟨i,l,n,rfl,hi,h1,h2,hl,rfl,rfl⟩⟩),h⟩
theorem LP(h:Q (.int (-i)) g):cF (.un .USub) [.int i] g Q:=⟨_,_,⟨rfl,i,rfl,rfl,rfl⟩,h⟩
theorem V2{op:CmpOp}{x y:D}{b:Bool}(hb:Co g x y b op)(h:Q (.bl b) g):cF (.cmp op) [x,y] g Q:=⟨_,_,⟨x,y,b,rfl,hb,rfl,rfl⟩,h⟩
theorem Pm(h:Q (.bl (decide (i<j))) g):cF (.cmp .Lt) [.int i,.int j] g Q:=V2 ⟨i,j,rfl,rfl,rfl⟩ h
theorem Pl(h:Q (.bl (decide (i<=j))) g):cF (.cmp .LtE) [.int i,.int j] g Q:=V2 ⟨i,j,rfl,rfl,rfl⟩ h
theorem Pk(h:Q (.bl (decide (j<i))) g):cF (.cmp .Gt) [.int i,.int j] g Q:=V2 ⟨i,j,rfl,rfl,rfl⟩ h
theorem Pj(h:Q (.bl (decide (j<=i))) g):cF (.cmp .GtE) [.int i,.int j] g Q:=V2 ⟨i,j,rfl,rfl,rfl⟩ h
theorem zZ{x y:D}(h:pI g x y λb=>Q (.bl b) g):cF (.cmp .Eq) [x,y] g Q:=let ⟨_,hb,h⟩:=h;V2 hb h
theorem Aa{x y:D}(h:pI g x y λb=>Q (.bl (!b)) g):cF (.cmp .NotEq) [x,y] g Q:=let ⟨b,hb,h⟩:=h;V2 (b:=!b) (show sd g x y (!(!b)) from by rw[qh];exact hb) h
theorem sA{x y:D}(h:mZ g x y λb=>Q (.bl b) g):cF (.cmp .In) [x,y] g Q:=let ⟨_,hb,h⟩:=h;V2 (.inl hb) h
theorem uv{x y:D}(h:mZ g x y λb=>Q (.bl (!b)) g):cF (.cmp .NotIn) [x,y] g Q:=let ⟨b,hb,h⟩:=h;V2 (b:=!b) (.inl (show inR g x y (!(!b)) from by rw[qh];exact hb)) h
theorem Lf(h:kb (decide (i=j))):pI g (.int i) (.int j) kb:=⟨_,.inl ⟨i,j,rfl,rfl,rfl⟩,h⟩
theorem Ga{x y:Str}(h:kb (decide (x=y))):pI g (.str x) (.str y) kb:=⟨_,.inr (.inr (.inl ⟨x,y,rfl,rfl,rfl⟩)),h⟩
theorem Kd(h:Q (.bl (decide (i=j))) g):cF (.cmp .Eq) [.int i,.int j] g Q:=zZ (Lf h)
theorem Ke{p q:Str}(h:Q (.bl (decide (p=q))) g):cF (.cmp .Eq) [.str p,.str q] g Q:=zZ (Ga h)
theorem Kg{p q:Str}(h:Q (.bl (!decide (p=q))) g):cF (.cmp .NotEq) [.str p,.str q] g Q:=Aa (Ga h)
theorem FQ{d:D}(h:Q (.bl (!U1 d)) g):cF (.cmp .IsNot) [d,.bw] g Q:=V2 ⟨rfl,rfl⟩ h
theorem Kf(h:Q (.bl false) g):cF (.cmp .IsNot) [.bw,.bw] g Q:=FQ h
theorem JU(h:kb t):oV g (.bl t) kb:=⟨t,.inr (.inl rfl),h⟩
theorem uW{t:Bool}{p:Bool->Prop}(h:p t):∃s,D.bl t=D.bl s/\p s:=⟨t,rfl,h⟩
theorem Mj{p:Int->Prop}(h:p i):∃s,D.int i=D.int s/\p s:=⟨i,rfl,h⟩
theorem if2{c:Prop}[Decidable c]{A B:Prop}(h1:c->A)(h2:¬c->B):if decide c=true then A else B:=by
 by_cases h:c
 ·rw[aG (aM h)];exact h1 h
 ·rw[aE (by rw[aC h];decide)];exact h2 h
theorem kK{A B:Prop}(h:A):if true=true then A else B:=by rw[aG rfl];exact h
theorem I9{A B:Prop}(h:B):if false=true then A else B:=by rw[aE (by decide)];exact h
theorem Cr{A B:Prop}(h:A):if(!false)=true then A else B:=by rw[aG (show(!false)=true from rfl)];exact h
theorem Pz{A B:Prop}(h:B):if(!true)=true then A else B:=by rw[aE (by decide)];exact h
theorem fH{b:Bool}{A B:Prop}(hb:b=false)(h:B):if b=true then A else B:=by rw[hb];exact I9 h
theorem gG{b:Bool}{A B:Prop}(hb:b=true)(h:A):if b=true then A else B:=by rw[hb];exact kK h
theorem n9{a:Nat}{d:D}(hl:d5 g a=some l)(h2:fB l i=some d)(h:Q d g):cF .ix [.ref a,.int i] g Q:=⟨_,_,⟨rfl,.inl ⟨_,l,i,rfl,hl,h2⟩⟩,h⟩
theorem U0{d:D}(h2:fB l i=some d)(h:Q d g):cF .ix [.tup l,.int i] g Q:=⟨_,_,⟨rfl,.inl ⟨_,l,i,rfl,rfl,h2⟩⟩,h⟩
theorem N6{a n:Nat}{v:D}{kg:G->Prop}(hl:g[a]?=some (.lst l))(hn:jT l.length i=some n)(h:kg (g.set a (.lst (l.set n v)))):S1 (.ref a) (.int i) v g kg:=⟨_,.inl ⟨a,i,l,n,rfl,rfl,hl,hn,rfl⟩,h⟩
theorem Lr{i:Nat}{kvs:List (Key×D)}{y v:D}{k:Key}{kg:G->Prop}(hg:g[i]?=some (.dP kvs))(hk:T8 y=some k)(hl:kvs.length<100000)(h:kg (g.set i (.dP (putD kvs k v)))):S1 (.ref i) y v g kg:=⟨_,.inr ⟨i,kvs,k,rfl,hg,hk,hl,rfl⟩,h⟩
theorem a8{a:Nat}(h:g[a]?=some (.lst l)):d5 g a=some l:=by simp only[d5,h,yk]
theorem TN{a:Nat}(h:g[a]?=some (.mJ l)):d5 g a=some l:=by simp only[d5,h,yk]
theorem L1{a:Nat}(hl:d5 g a=some l)(h:Q (.int l.length) g):cF .len [.ref a] g Q:=⟨_,_,⟨rfl,.inl ⟨_,l,rfl,hl,rfl⟩⟩,h⟩
theorem ES{a:Nat}(hl:d5 g a=some l)(h:Q (.ref g.length) (g++[.lst (cut l (some i) none)])):cF (.je true false) [.ref a,.int i] g Q:=⟨_,_,⟨_,i,rfl,.inr ⟨a,l,rfl,hl,rfl,rfl⟩⟩,h⟩
theorem X4{a:Nat}(hl:d5 g a=some l)(h:Q (.ref g.length) (g++[.lst (cut l none (some i))])):cF (.je false true) [.ref a,.int i] g Q:=⟨_,_,⟨_,i,rfl,.inr ⟨a,l,rfl,hl,rfl,rfl⟩⟩,h⟩
theorem zH(hl:l.length<=1000)(h:Q (.tup l) g):cF .tup l g Q:=⟨_,_,⟨hl,rfl,rfl⟩,h⟩
theorem zG(hl:l.length<=1000)(h:Q (.ref g.length) (g++[.lst l])):cF .lst l g Q:=⟨_,_,⟨hl,rfl,rfl⟩,h⟩
theorem uC{a:Nat}(hl:d5 g a=some l)(h:Q (.ref g.length) (g++[.lst l])):cF .list [.ref a] g Q:=⟨_,_,.inl ⟨_,l,rfl,hl,rfl,rfl⟩,h⟩
theorem KC(h:Q (.ref g.length) (g++[.lst l])):cF .list [.tup l] g Q:=⟨_,_,.inl ⟨_,l,rfl,rfl,rfl,rfl⟩,h⟩
theorem LM{a:Nat}(hl:d5 g a=some l)(h:Q (.tup l) g):cF .tuple [.ref a] g Q:=⟨_,_,⟨_,l,rfl,hl,rfl,rfl⟩,h⟩
theorem Bc{d:D}{c:String}{b:Bool}(hc:c∈["int","bool","str","tuple","list"])(hb:zj g d c=some b)(h:Q (.bl b) g):cF .isin [d,.ty c] g Q:=⟨_,_,⟨d,c,b,rfl,hc,hb,rfl,rfl⟩,h⟩
theorem sR{i:Nat}{y:D}(hg:g[i]?=some (.lst l))(hl:l.length<100000)(h:Q .bw (g.set i (.lst (l++[y])))):cF .append [.ref i,y] g Q:=⟨_,_,⟨i,y,l,rfl,hg,hl,rfl,rfl⟩,h⟩
theorem KG{i j:Nat}{y:D}{n:Int}(hg:g[i]?=some (.lst l))(hn:n=j)(hj:l[j]?=some y)(hl:l.length<100000)(h:Q y (g.set i (.lst (l.eraseIdx j)))):cF .pop [.ref i,.int n] g Q:=by
 have dR:=(av.mp hj).1;refine⟨_,_,⟨i,n,l,j,rfl,hg,by omega,by omega,?_,hj,rfl⟩,h⟩;rw[hn];exact PySem.StrLaws.seqIndex_nonneg (by omega) (by omega) |>.trans (by simp)
theorem zD{i:Nat}{kvs:List (Key×D)}{y z:D}{k:Key}(hg:g[i]?=some (.dP kvs))(hk:T8 y=some k)(h:Q ((u9 kvs k).getD z) g):cF .get [.ref i,y,z] g Q:=⟨_,_,⟨i,y,z,kvs,k,rfl,hg,hk,rfl,rfl⟩,h⟩
theorem yp{i:Nat}(hg:g[i]?=some (.lst l)):lz .append (.ref i) g:=⟨i,l,rfl,a8 hg⟩
theorem MB{i:Nat}(hg:g[i]?=some (.lst l)):lz .pop (.ref i) g:=⟨i,l,rfl,a8 hg⟩
theorem PY{i:Nat}{l:List (Key×D)}(hg:g[i]?=some (.dP l)):lz .get (.ref i) g:=⟨i,l,rfl,hg⟩
theorem AY{j:Int}(h1:-(2 ^ 62)<=j)(h2:j<=100000)(h:Q (.ref g.length) (g++[.lst (j6 0 j.toNat)])):cF .ik [.int j] g Q:=⟨_,_,⟨j,rfl,h1,h2,rfl,rfl⟩,h⟩
theorem Hy{i j:Int}(h1:-(2 ^ 62)<=i/\i<2 ^ 62/\-(2 ^ 62)<=j/\j<2 ^ 62/\j-i<=100000)(h:Q (.ref g.length) (g++[.lst (j6 i (j-i).toNat)])):cF .jk [.int i,.int j] g Q:=⟨_,_,⟨i,j,rfl,h1,rfl,rfl⟩,h⟩
theorem MR{a:Nat}{ns:List Int}(hl:d5 g a=some (ns.map .int))(hz:ns.length<60)(h:Q (.ref g.length) (g++[.lst ((A6 ns).map .int)])):cF .sset [.ref a] g Q:=⟨_,_,⟨a,ns,rfl,hl,hz,rfl,rfl⟩,h⟩
theorem U5(h:Q (.ref g.length) (g++[.dP []])):cF .U5 [] g Q:=⟨_,_,⟨rfl,rfl,rfl⟩,h⟩
theorem max2{i j:Int}(h:Q (.int (if j>i then j else i)) g):cF .max [.int i,.int j] g Q:=⟨_,_,⟨rfl,.inl ⟨i,j,rfl,rfl⟩⟩,h⟩
theorem min2{i j:Int}(h:Q (.int (if j<i then j else i)) g):cF .min [.int i,.int j] g Q:=⟨_,_,⟨rfl,.inl ⟨i,j,rfl,rfl⟩⟩,h⟩
theorem Kq{v:Bool}(h:Q (.int (if v then 1 else 0)) g):cF .int [.bl v] g Q:=⟨_,_,⟨rfl,.inr ⟨v,rfl,rfl⟩⟩,h⟩
theorem FY{kvs:List D}{x:Str}{v:D}(hv:J7 kvs x=some v)(h:Q v g):cF .lN [.tup kvs,.str x] g Q:=⟨_,_,⟨kvs,x,rfl,hv,rfl⟩,h⟩
theorem Pp{i:Int}(hi:i.natAbs.log2<1920)(h:Q (.str (toString i)) g):cF .fv [.int i] g Q:=⟨_,_,⟨rfl,.inl ⟨i,rfl,hi,rfl⟩⟩,h⟩
theorem MQ{x:Str}(hx:O2 l=some x)(h:Q (.str x) g):cF .kr l g Q:=⟨_,_,⟨x,hx,rfl,rfl⟩,h⟩
theorem FJ{i:Nat}{v:Bool}(hl:d5 g i=some l)(hv:O4 l=some v)(h:Q (.bl v) g):cF .all [.ref i] g Q:=⟨_,_,⟨i,l,v,rfl,hl,.inl hv,rfl,rfl⟩,h⟩
theorem E3{i:Nat}{x:D}{Z:S}{k:S->Prop}(h:k (Z.set i (some x))):iV (.one i) x Z k:=h
theorem C4{is:List Nat}{Z bI:S}{k:S->Prop}(e:A2 is l Z=some bI)(h:k bI):iV (.many is) (.tup l) Z k:=⟨l,bI,rfl,e,h⟩
end
theorem Dk:∀(bs:List Bool),O4 (bs.map D.bl)=some (bs.all id):=by
 intro bs
 induction bs with
 |nil=>rfl
 |cons b r ih=>simp[O4,ih]
theorem call_of{T:Nat->Option aN}{k f:Nat}{m:aN}{ds:List D}{g:G}{Q:KD}{E:KX}(hT:T f=some m)(hl:ds.length=m.ar)(h:wpS (b9 T k) m.body ⟨λ_ g'=>Q .bw g',Q,λ_ _=>False,λ_ _=>False⟩ (d4 m ds) g E):b9 T (k+1) f ds g Q E:=⟨m,hT,hl,h⟩
def IK.Is(k:IK)(l:List D)(g:G):Prop:=∀i,k.at i g=some l[i]?
theorem A9{l:List D}{g:G}:(IK.fix l).Is l g:=λ_=>rfl
theorem Q7{a:Nat}{l:List D}{g:G}(h:d5 g a=some l):(IK.lst a).Is l g:=λi=>by simp only[IK.at,h]
def nC(l:List D):List D:=l.mapIdx λi d=>.tup [.int i,d]
theorem EF{a:Nat}{l:List D}{g:G}(h:d5 g a=some l):(IK.oK a).Is (nC l) g:=λi=>by
 simp only[IK.at,h,nC,List.getElem?_mapIdx]
theorem yM(l:List D):(nC l).length=l.length:=by simp[nC]
theorem Fd{l:List D}{i:Nat}{x:D}(h:(nC l)[i]?=some x):∃d,l[i]?=some d/\x=.tup [.int i,d]:=by
 rw[nC,List.getElem?_mapIdx,ae] at h;obtain⟨d,h1,h2⟩:=h;exact⟨d,h1,h2.symm⟩
theorem F7{lo:Int}{n i:Nat}{x:D}(h:(j6 lo n)[i]?=some x):i<n/\x=.int (lo+i):=by
 unfold j6 at h;have hi:i<n:=by
  have:=(av.mp h).1;simpa using this
 rw[aD,iz hi] at h;cases h;exact⟨hi,rfl⟩
theorem m7(lo:Int)(n:Nat):(j6 lo n).length=n:=by simp[j6]
section
variable{P:eG}{Z:S}{g:G}{E:KX}{N:Ends}{it a b c o:ME}{s:MS}{t:MT}{Q:KD}
theorem Dg{k:IK}{l:List D}{fin:S->G->Prop}{turn:D->(S->G->Prop)->S->G->Prop}(I:Nat->S->G->Prop)(hk:∀i Z g,I i Z g->k.Is l g)(h0:I 0 Z g)(hs:∀i x Z g,l[i]?=some x->I i Z g->turn x (I (i+1)) Z g)(hd:∀Z g,I l.length Z g->fin Z g):turns k Z g fin turn:=by
 refine⟨λi m Z g=>m=l.length-i/\i<=l.length/\I i Z g,⟨l.length,by simp,cQ _,h0⟩,?_⟩;rintro i m Z g ⟨rfl,hi,p⟩;rw[hk i Z g p i];by_cases dR:i<l.length
 ·rw[aq dR];exact .inr ⟨_,rfl,I (i+1),λbI g' p'=>⟨l.length-(i+1),by omega,rfl,dR,p'⟩,hs i l[i] Z g (aq dR) p⟩
 ·have e:i=l.length:=by omega
  subst e;rw[cZ (ak _)];exact .inl ⟨rfl,hd Z g p⟩
theorem N4(hP:i5 P)(h:fX P it Z g (λk g1=>∃(l:List D) (I:Nat->S->G->Prop),(∀i Z g,I i Z g->k.Is l g)/\I 0 Z g1 /\
      (∀ i x Z g,l[i]?=some x->I i Z g->iV t x Z λbY=>wpS P s ⟨I (i + 1),N.rt,N.nx,I (i + 1)⟩ bY g E)/\∀ Z g,I l.length Z g->N.nx Z g) E):wpS P (.cH t it s) N Z g E :=
  w6 hP it _ _ _ _ _ _ (λk g1 hq=>by obtain⟨l,I,hk,h0,hs,hd⟩:=hq;exact Dg I hk h0 hs hd) (λ_ _ z=>z) h
theorem DP{n:Nat}(hn:(n:Int)<2 ^ 62)(I:Nat->S->G->Prop)(h0:I 0 Z g)(hs:∀(i:Nat) Z g,i<n->I i Z g->iV t (.int i) Z λbY=>wpS P s ⟨I (i+1),N.rt,N.nx,I (i+1)⟩ bY g E)(hd:∀Z g,I n Z g->N.nx Z g):wpS P (.cH t (.dN (.lit (.int n))) s) N Z g E:=by
 refine⟨n,rfl,by omega,hn,Dg (l:=j6 0 n) I (λ_ _ _ _=>A9) h0 (λi x Z g hx p=>?_) (λZ g p=>hd Z g (by rw[m7] at p;exact p))⟩;obtain⟨hi,rfl⟩:=F7 hx;have:=hs i Z g hi p;rw[show(0:Int)+(i:Int)=i by omega];exact this
theorem P8{d6:List Nat}{n:Nat}{cond elt:ME}(hP:i5 P)(h:fX P it Z g (λk g1=>∃(l:List D) (I:Nat->List D->S->G->Prop),l.length<=1000/\(∀i ys Z g,I i ys Z g->k.Is l g/\ys.length<=i)/\I 0 [] (B9 Z d6 n) g1 /\
      (∀i x ys Z g,l[i]?=some x->I i ys Z g->iV t x Z λbY=>cW P cond bY g (λc g3=>if c=true then aR P elt bY g3 (λy g4=>I (i+1) (ys++[y]) bY g4) iP else I (i+1) ys bY g3) iP) /\
      ∀ ys Z g,I l.length ys Z g->Q (.ref g.length) (g ++ [.lst ys])) E):aR P (.comp d6 n t it cond elt) Z g Q E:=by
  refine w6 hP it _ _ _ _ _ _ (λk g1 h=>?_) (λ_ _ z=>z) h;obtain⟨l,I,hl,hk,h0,hs,hd⟩:=h;refine⟨λi m ys Z g=>m=l.length-i/\i<=l.length/\I i ys Z g,⟨l.length,by simp,cQ _,h0⟩,?_⟩;rintro i m ys Z g ⟨rfl,hi,p⟩;obtain⟨rq,hy⟩:=hk i ys Z g p;rw[rq i];by_cases dR:i<l.length
  · rw[aq dR];refine .inr ⟨_,rfl,by omega,u7 (λbY q=>n4 hP cond _ _ _ _ _ _ (λc g3 q=>?_) (λ_ _ z=>z) q) (hs i l[i] ys Z g (aq dR) p)⟩;cases c
    · exact⟨l.length-(i+1),by omega,rfl,dR,by simpa using(show I (i+1) ys bY g3 from q)⟩
    · exact b0 hP elt _ _ _ _ _ _ (λy g4 q=>⟨l.length-(i+1),by omega,rfl,dR,by simpa using q⟩) (λ_ _ z=>z) q
  · have e:i=l.length:=by omega
    subst e;rw[cZ (ak _)];exact .inl ⟨rfl,hd ys Z g p⟩
theorem Eh{d6:List Nat}{n:Nat}{cond elt:ME}(hP:i5 P)(h:aR P a Z g (λx g1=>∃j:Nat,x=.int j/\j<=1000/\∃I:Nat->List D->S->G->Prop,I 0 [] (B9 Z d6 n) g1/\(∀i ys Z g,I i ys Z g->ys.length<=i) /\
      (∀(i:Nat) ys Z g,i<j->I i ys Z g->iV t (.int i) Z λbY=>cW P cond bY g (λc g3=>if c=true then aR P elt bY g3 (λy g4=>I (i+1) (ys++[y]) bY g4) iP else I (i+1) ys bY g3) iP) /\
      ∀ ys Z g,I j ys Z g->Q (.ref g.length) (g ++ [.lst ys])) E):aR P (.comp d6 n t (.dN a) cond elt) Z g Q E:=by
  refine P8 hP ?_;refine b0 hP a _ _ _ _ _ _ (λx g1 h=>?_) (λ_ _ z=>z) h;obtain⟨j,rfl,hj,I,h0,hz,hs,hd⟩:=h;refine⟨j,rfl,by omega,by omega,_,I,by rw[m7];simpa using hj,λi ys Z g p=>⟨A9,hz i ys Z g p⟩,h0,λi x ys Z g hx p=>?_,λys Z g p=>hd ys Z g (by rw[m7] at p;simpa using p)⟩;obtain⟨hi,rfl⟩:=F7 hx;rw[show(0:Int)+(i:Int)=i by omega];exact hs i ys Z g (by simpa using hi) p
theorem Vt{d6:List Nat}{n:Nat}{cond elt:ME}(hP:i5 P)(h:aR P a Z g (λx g1=>∃l,x=.tup l/\l.length<=1000/\∃I:Nat->List D->S->G->Prop,I 0 [] (B9 Z d6 n) g1/\(∀i ys Z g,I i ys Z g->ys.length<=i) /\
      (∀(i:Nat) x ys Z g,l[i]?=some x->I i ys Z g->iV t x Z λbY=>cW P cond bY g (λc g3=>if c=true then aR P elt bY g3 (λy g4=>I (i+1) (ys++[y]) bY g4) iP else I (i+1) ys bY g3) iP) /\
      ∀ ys Z g,I l.length ys Z g->Q (.ref g.length) (g ++ [.lst ys])) E):aR P (.comp d6 n t (.dY a) cond elt) Z g Q E:=by
  refine P8 hP ?_;refine b0 hP a _ _ _ _ _ _ (λx g1 h=>?_) (λ_ _ z=>z) h;obtain⟨l,rfl,hj,I,h0,hz,hs,hd⟩:=h;exact .inl ⟨l,rfl,_,I,hj,λi ys Z g p=>⟨A9,hz i ys Z g p⟩,h0,hs,hd⟩
theorem pN(hP:i5 P){R:IK->G->Prop}(h:aR P a Z g (λx g1=>∃j:Int,x=.int j/\-(2 ^ 62)<=j/\j<2 ^ 62/\R (.fix (j6 0 j.toNat)) g1) E):fX P (.dN a) Z g R E:=h
theorem Be(hP:i5 P){R:IK->G->Prop}(h:aR P a Z g (λx g1=>∃l,x=.tup l/\R (.fix l) g1) E):fX P (.dY a) Z g R E:=by
 exact b0 hP a _ _ _ _ _ _ (λx g1 h=>.inl h) (λ_ _ z=>z) h
theorem tU(hP:i5 P){R:IK->G->Prop}(h:aR P a Z g (λx g1=>∃i l,x=.ref i/\d5 g1 i=some l/\R (.lst i) g1) E):fX P (.dY a) Z g R E:=by
 exact b0 hP a _ _ _ _ _ _ (λx g1 h=>.inr h) (λ_ _ z=>z) h
theorem wb{R:IK->G->Prop}(h:aR P a Z g (λx g1=>∃i l,x=.ref i/\d5 g1 i=some l/\R (.oK i) g1) E):fX P (.jl a) Z g R E:=h
end
end M

namespace M
open PySem L2 PySem.Spec PyProof.Rows
structure RF where
 id:Nat
 nm:Str
 N:List Str
 k:Nat
 i:Nat
 m:aN
structure RM where
 id:Nat
 cl:Str
 nm:Str
 qn:Str
 N:List Str
 k:Nat
 i:Nat
 j:Nat
 m:aN
def RF.d(tp:Nat->Stmt)(r:RF):mL:=⟨r.nm,r.nm,r.N,r.N.take r.k,tp r.i⟩
def RM.d(mt:Nat->Nat->Stmt)(r:RM):mL:=⟨r.nm,r.qn,r.N,r.N.take r.k,mt r.i r.j⟩
def pR(F:List RF)(M:List RM)(i:Nat):Option aN:=match F.find? λr=>Nat.beq r.id i with
 |some r=>some r.m
 |none=>(M.find? λr=>Nat.beq r.id i).map (·.m)
section
variable(tp:Nat->Stmt)(mt:Nat->Nat->Stmt)(K:PySem.W.Frag)
def PF:List RF->Prop
 |[]=>True
 |r::l=>(∃f fd,PySem.W.nsIn K mainGlobals r.nm=some (some (.ref f))/\nJ K r.nm r.nm (tp r.i) f fd)/\PF l
def PM:List RM->Prop
 |[]=>True
 |r::l=>(∃C f fd,PySem.W.nsIn K mainGlobals r.cl=some (some (.ref C))/\Meth K C r.nm f/\nJ K r.nm r.qn (mt r.i r.j) f fd)/\PM l
def PC:List (Str×Nat)->Prop
 |[]=>True
 |r::l=>(∃C,PySem.W.nsIn K mainGlobals r.1=some (some (.ref C))/\iY K C/\PySem.W.makesIn K C=true/\PySem.W.keepIn K (.ref C)=true)/\PC l
def PA:List (Str×Str)->Prop
 |[]=>True
 |r::l=>(∃C,PySem.W.nsIn K mainGlobals r.2=some (some (.ref C))/\PySem.W.findIn K (.ref C) r.1=some none)/\PA l
def PB:List Str->Prop
 |[]=>True
 |r::l=>PySem.W.nsIn K mainGlobals r=some none/\PB l
def PX:List Str->Prop
 |[]=>True
 |r::l=>(∃C,PySem.W.nsIn K mainGlobals r=some (some (.ref C))/\PySem.W.excIn K C [.type "ValueError",.type "Exception",.type "BaseException",.type "object"] "ValueError.__new__"=true)/\PX l
def BF:List RF->Prop
 |[]=>True
 |r::l=>(∀(kV doc pm:Value) (an:Option Addr) (eM ct:Value) (us:List Value),us.length=(r.N.take r.k).length->bindArgs (PySem.W.fnOf r.nm r.nm (t8 (tp r.i)) (k9 (tp r.i)) (k8 (tp r.i)) .none kV doc pm an eM ct) ⟨us,[]⟩=pure ((r.N.take r.k).zip us))/\BF l
def BM:List RM->Prop
 |[]=>True
 |r::l=>(∀(kV doc pm:Value) (an:Option Addr) (eM ct:Value) (us:List Value),us.length=(r.N.take r.k).length->bindArgs (PySem.W.fnOf r.nm r.qn (t8 (mt r.i r.j)) (k9 (mt r.i r.j)) (k8 (mt r.i r.j)) .none kV doc pm an eM ct) ⟨us,[]⟩=pure ((r.N.take r.k).zip us))/\BM l
def YF(c:f7):List RF->Prop
 |[]=>True
 |r::l=>n6 (comp 60) (c.at (r.d tp)) (k9 (tp r.i))=some r.m.body/\YF c l
def YM(c:f7):List RM->Prop
 |[]=>True
 |r::l=>n6 (comp 60) (c.at (r.d mt)) (k9 (mt r.i r.j))=some r.m.body/\YM c l
end
section
variable{tp:Nat->Stmt}{mt:Nat->Nat->Stmt}{K:PySem.W.Frag}{c:f7}{id k i j:Nat}{cl nm qn x:Str}{N:List Str}{m:aN}{f C:Addr}{oc kV doc pm eM ct:Value}{od an:Option Addr}{kJ:Array (Option Value)}
theorem PF.nil:PF tp K []:=trivial
theorem PF.cons{l:List RF}(a:PySem.W.nsIn K mainGlobals nm=some (some (.ref f)))(lk:K.lookup f=some ⟨oc,od,.func (PySem.W.fnOf nm nm (t8 (tp i)) (k9 (tp i)) (k8 (tp i)) .none kV doc pm an eM ct),kJ⟩)(cd:PySem.W.codeIn K eM nm=true)(kp:PySem.W.keepIn K (.ref f)=true)(h:PF tp K l):PF tp K (⟨id,nm,N,k,i,m⟩::l):=⟨⟨f,_,a,EE lk cd kp⟩,h⟩
theorem PM.nil:PM mt K []:=trivial
theorem PM.cons{l:List RM}(c0:PySem.W.nsIn K mainGlobals cl=some (some (.ref C)))(a:PySem.W.findIn K (.ref C) nm=some (some (.ref f)))(af:PySem.W.isFn K (.ref f)=true)(lk:K.lookup f=some ⟨oc,od,.func (PySem.W.fnOf nm qn (t8 (mt i j)) (k9 (mt i j)) (k8 (mt i j)) .none kV doc pm an eM ct),kJ⟩)(cd:PySem.W.codeIn K eM qn=true)(kp:PySem.W.keepIn K (.ref f)=true)(h:PM mt K l):PM mt K (⟨id,cl,nm,qn,N,k,i,j,m⟩::l):=⟨⟨C,f,_,c0,⟨a,af,kp⟩,EE lk cd kp⟩,h⟩
theorem PC.nil:PC K []:=trivial
theorem PC.cons{l:List (Str×Nat)}(cn:PySem.W.nsIn K mainGlobals x=some (some (.ref C)))(cp:PySem.W.plainGet K C Str.empty=true)(JD:PySem.W.hasDictIn K C=true)(JA:PySem.W.plainOver K C=true)(Jz:PySem.W.findIn K (.ref C) "__setattr__"=some (some (.builtin "object.__setattr__")))(JB:PySem.W.makesIn K C=true)(JC:PySem.W.keepIn K (.ref C)=true)(h:PC K l):PC K ((x,i)::l):=⟨⟨C,cn,⟨cp,JD,JA,Jz⟩,JB,JC⟩,h⟩
theorem PA.nil:PA K []:=trivial
theorem PA.cons{l:List (Str×Str)}(cn:PySem.W.nsIn K mainGlobals x=some (some (.ref C)))(fl:PySem.W.findIn K (.ref C) nm=some none)(h:PA K l):PA K ((nm,x)::l):=⟨⟨C,cn,fl⟩,h⟩
theorem PB.nil:PB K []:=trivial
theorem PB.cons{l:List Str}(cn:PySem.W.nsIn K mainGlobals x=some none)(h:PB K l):PB K (x::l):=⟨cn,h⟩
theorem PX.nil:PX K []:=trivial
theorem PX.cons{l:List Str}(cn:PySem.W.nsIn K mainGlobals x=some (some (.ref C)))(q:PySem.W.excIn K C [.type "ValueError",.type "Exception",.type "BaseException",.type "object"] "ValueError.__new__"=true)(h:PX K l):PX K (x::l):=⟨⟨C,cn,q⟩,h⟩
theorem Aw{P:List Value->Prop}{n:Nat}(h:∀a vs,vs.length=n->P (a::vs))(us:List Value)(hl:us.length=n+1):P us:=by
 cases us with
 |nil=>cases hl
 |cons a vs=>exact h a vs (Nat.succ.inj hl)
theorem Av{P:List Value->Prop}(h:P [])(us:List Value)(hl:us.length=0):P us:=by
 cases List.length_eq_zero_iff.mp hl;exact h
theorem BF.nil:BF tp []:=trivial
theorem BF.cons{l:List RF}(h:∀(kV doc pm:Value) (an:Option Addr) (eM ct:Value) (us:List Value),us.length=(N.take k).length->bindArgs (PySem.W.fnOf nm nm (t8 (tp i)) (k9 (tp i)) (k8 (tp i)) .none kV doc pm an eM ct) ⟨us,[]⟩=pure ((N.take k).zip us))(h2:BF tp l):BF tp (⟨id,nm,N,k,i,m⟩::l):=⟨h,h2⟩
theorem BM.nil:BM mt []:=trivial
theorem BM.cons{l:List RM}(h:∀(kV doc pm:Value) (an:Option Addr) (eM ct:Value) (us:List Value),us.length=(N.take k).length->bindArgs (PySem.W.fnOf nm qn (t8 (mt i j)) (k9 (mt i j)) (k8 (mt i j)) .none kV doc pm an eM ct) ⟨us,[]⟩=pure ((N.take k).zip us))(h2:BM mt l):BM mt (⟨id,cl,nm,qn,N,k,i,j,m⟩::l):=⟨h,h2⟩
theorem YF.nil:YF tp c []:=trivial
theorem YF.cons{l:List RF}(h:n6 (comp 60) (c.at ⟨nm,nm,N,N.take k,tp i⟩) (k9 (tp i))=some m.body)(h2:YF tp c l):YF tp c (⟨id,nm,N,k,i,m⟩::l):=⟨h,h2⟩
theorem YM.nil:YM mt c []:=trivial
theorem YM.cons{l:List RM}(h:n6 (comp 60) (c.at ⟨nm,qn,N,N.take k,mt i j⟩) (k9 (mt i j))=some m.body)(h2:YM mt c l):YM mt c (⟨id,cl,nm,qn,N,k,i,j,m⟩::l):=⟨h,h2⟩
theorem YF.get:∀{l:List RF},YF tp c l->∀r∈l,n6 (comp 60) (c.at (r.d tp)) (k9 (tp r.i))=some r.m.body
 |_::_,h,r,hr=>(az.mp hr).elim (λz=>z▸h.1) (YF.get h.2 r)
theorem YM.get:∀{l:List RM},YM mt c l->∀r∈l,n6 (comp 60) (c.at (r.d mt)) (k9 (mt r.i r.j))=some r.m.body
 |_::_,h,r,hr=>(az.mp hr).elim (λz=>z▸h.1) (YM.get h.2 r)
theorem PF.get:∀{l:List RF},PF tp K l->∀r∈l,∃f fd,PySem.W.nsIn K mainGlobals r.nm=some (some (.ref f))/\nJ K r.nm r.nm (tp r.i) f fd
 |_::_,h,r,hr=>(az.mp hr).elim (λz=>z▸h.1) (PF.get h.2 r)
theorem PM.get:∀{l:List RM},PM mt K l->∀r∈l,∃C f fd,PySem.W.nsIn K mainGlobals r.cl=some (some (.ref C))/\Meth K C r.nm f/\nJ K r.nm r.qn (mt r.i r.j) f fd
 |_::_,h,r,hr=>(az.mp hr).elim (λz=>z▸h.1) (PM.get h.2 r)
theorem PC.get:∀{l:List (Str×Nat)},PC K l->∀r∈l,∃C,PySem.W.nsIn K mainGlobals r.1=some (some (.ref C))/\iY K C/\PySem.W.makesIn K C=true/\PySem.W.keepIn K (.ref C)=true
 |_::_,h,r,hr=>(az.mp hr).elim (λz=>z▸h.1) (PC.get h.2 r)
theorem PA.get:∀{l:List (Str×Str)},PA K l->∀r∈l,∃C,PySem.W.nsIn K mainGlobals r.2=some (some (.ref C))/\PySem.W.findIn K (.ref C) r.1=some none
 |_::_,h,r,hr=>(az.mp hr).elim (λz=>z▸h.1) (PA.get h.2 r)
theorem PB.get:∀{l:List Str},PB K l->∀r∈l,PySem.W.nsIn K mainGlobals r=some none
 |_::_,h,r,hr=>(az.mp hr).elim (λz=>z▸h.1) (PB.get h.2 r)
theorem PX.get:∀{l:List Str},PX K l->∀r∈l,∃C,PySem.W.nsIn K mainGlobals r=some (some (.ref C))/\PySem.W.excIn K C [.type "ValueError",.type "Exception",.type "BaseException",.type "object"] "ValueError.__new__"=true
 |_::_,h,r,hr=>(az.mp hr).elim (λz=>z▸h.1) (PX.get h.2 r)
theorem BF.get:∀{l:List RF},BF tp l->∀r∈l,∀(kV doc pm:Value) (an:Option Addr) (eM ct:Value) (us:List Value),us.length=(r.N.take r.k).length->bindArgs (PySem.W.fnOf r.nm r.nm (t8 (tp r.i)) (k9 (tp r.i)) (k8 (tp r.i)) .none kV doc pm an eM ct) ⟨us,[]⟩=pure ((r.N.take r.k).zip us)
 |_::_,h,r,hr=>(az.mp hr).elim (λz=>z▸h.1) (BF.get h.2 r)
theorem BM.get:∀{l:List RM},BM mt l->∀r∈l,∀(kV doc pm:Value) (an:Option Addr) (eM ct:Value) (us:List Value),us.length=(r.N.take r.k).length->bindArgs (PySem.W.fnOf r.nm r.qn (t8 (mt r.i r.j)) (k9 (mt r.i r.j)) (k8 (mt r.i r.j)) .none kV doc pm an eM ct) ⟨us,[]⟩=pure ((r.N.take r.k).zip us)
 |_::_,h,r,hr=>(az.mp hr).elim (λz=>z▸h.1) (BM.get h.2 r)
end
def tM(N P:List Str)(sc:Scope):Bool:=decide (sc.kind=.function)&&!sc.isCoroutine&&!sc.isGenerator&&decide N.Nodup&&decide (N.take P.length=P)&&P.all (λx=>decide (sc.names.lookup x=some .local)||decide (sc.names.lookup x=some .cell))&&sc.names.all λy=>decide (y.2≠.free)
theorem EO{N P:List Str}{sc:Scope}(h:tM N P sc=true):gH N P sc:=by
 unfold tM at h;simp only[Bool.and_eq_true,decide_eq_true_eq,Bool.not_eq_true',List.all_eq_true,Bool.or_eq_true] at h;obtain⟨⟨⟨⟨⟨⟨h1,h2⟩,h3⟩,h4⟩,h5⟩,h6⟩,h7⟩:=h;exact⟨h1,h2,h3,h4,h5,h6,h7⟩
theorem Uh{K:PySem.W.Frag}{h₀:Heap}{mg:Str->Option Value}{x:Str}{C:Addr}{Cs:List Value}{newId:String}(X:K.In h₀)(G:h₀.Ns mainGlobals mg)(e:PySem.W.nsIn K mainGlobals x=some (some (.ref C)))(q:PySem.W.excIn K C Cs newId=true):PyProof.Rows.OwnCls x C Cs newId mg h₀:=by
 refine⟨bE X G e,?_⟩;unfold PySem.W.excIn at q;split at q
 ·rename_i dd cd sl ho;split at q
  ·rename_i C' bm k0 k1 k2 k3 n k5 hm hs;simp only[Bool.and_eq_true,beq_iff_eq,Bool.not_eq_true'] at q;obtain⟨⟨⟨⟨⟨z1,z2⟩,rE⟩,ht⟩,bx⟩,tX⟩:=q;subst z1;subst z2;obtain⟨nm,bs,mro,ns,qn,hd,sn,sub,ab,col,del⟩:=cd;dsimp only at hm rE bx tX;subst hm rE;have HH:sl=#[k0,k1,k2,k3,some (.builtin n),k5]:=by
    obtain⟨l⟩:=sl;simp only at hs;rw[hs]
   subst HH;exact⟨bm,ns,nm,qn,bs,hd,sn,sub,ab,col,dd,k0,k1,k2,k3,k5,_,X _ _ ho,.of_isNs (PySem.W.isNs_of_in X bx),PySem.W.nsMap_none_of_in X bx tX,PySem.W.tail_of_in X ht⟩
  ·cases q
 ·cases q
def L7(K:PySem.W.Frag)(x:Str):Addr:=match PySem.W.nsIn K mainGlobals x with
 |some (some (.ref C))=>C
 |_=>0
def Ff(K:PySem.W.Frag)(exc:List Str):Bool:=exc.all λx=>exc.all λy=>decide (PySem.W.exmOne K (.ref (L7 K x)) (.ref (L7 K y))=some (decide (x=y\/y="MintError")))
theorem Mf{K:PySem.W.Frag}{exc:List Str}(h:Ff K exc=true){x y:Str}{C C':Addr}(hx:exc.contains x=true)(hy:exc.contains y=true)(hC:m5 K x C)(wZ:m5 K y C'):PySem.W.exmOne K (.ref C) (.ref C')=some (decide (x=y\/y="MintError")):=by
 have h1:=eF.mp h x (by simpa using hx);have h2:=aY (eF.mp h1 y (by simpa using hy));have e1:L7 K x=C:=by unfold L7;rw[show PySem.W.nsIn K mainGlobals x=_ from hC]
 have e2:L7 K y=C':=by unfold L7;rw[show PySem.W.nsIn K mainGlobals y=_ from wZ]
 rw[e1,e2] at h2;exact h2
theorem yO{α:Type}{f:α->Nat}:∀{l:List α},(l.map f).Nodup->∀r∈l,l.find? (λx=>Nat.beq (f x) (f r))=some r
 |y::l,nd,r,hr=>by
  rw[aU,eR] at nd;rcases az.mp hr with rfl|hr
  ·rw[List.find?_cons_of_pos];exact Nat.beq_refl _
  ·rw[List.find?_cons_of_neg]
   ·exact yO nd.2 r hr
   ·intro z;exact nd.1 (aT.mpr ⟨r,hr,(gL z).symm⟩)
theorem OB{α β:Type}{f:α->Nat}{g:β->Nat}{l:List α}{r:β}(h:g r∉l.map f):l.find? (λx=>Nat.beq (f x) (g r))=none:=by
 rw[GF];intro x hx z;exact h (aT.mpr ⟨x,hx,gL z⟩)
section
variable{w:World}{K:PySem.W.Frag}{h₀:Heap}{mg:Str->Option Value}{c:f7}{F:List RF}{M:List RM}{tp:Nat->Stmt}{mt:Nat->Nat->Stmt}
structure jY(K:PySem.W.Frag)(c:f7)(F:List RF)(M:List RM)(tp:Nat->Stmt)(mt:Nat->Nat->Stmt):Prop where
 qF:PF tp K F
 qM:PM mt K M
 qC:PC K c.cls
 qA:PA K c.lZ
 qB:PB K c.blt
 qX:PX K c.exc
 xm:Ff K c.exc=true
structure jX(c:f7)(F:List RF)(M:List RM)(tp:Nat->Stmt)(mt:Nat->Nat->Stmt):Prop where
 cf:c.fns=F.map λr=>(r.nm,r.id)
 cm:c.mW=M.map λr=>(r.nm,r.cl,r.id)
 ci:c.cls.all (λy=>M.any λr=>decide (r.cl=y.1)&&decide (r.nm="__init__")&&Nat.beq r.id y.2)=true
 nd:(F.map (·.id)++M.map (·.id)).Nodup
 sF:F.all (λr=>tM r.N (r.N.take r.k) (k8 (tp r.i))&&decide (r.m.ar=(r.N.take r.k).length)&&decide (r.m.n=r.N.length))=true
 sM:M.all (λr=>tM r.N (r.N.take r.k) (k8 (mt r.i r.j))&&decide (r.m.ar=(r.N.take r.k).length)&&decide (r.m.n=r.N.length))=true
 oF:YF tp c F
 oM:YM mt c M
 bF:BF tp F
 bM:BM mt M
theorem FA(I:jY K c F M tp mt)(X:jX c F M tp mt)(r:RF)(hr:r∈F):∃f fd,iw K c (r.d tp) r.m f fd/\PySem.W.nsIn K mainGlobals r.nm=some (some (.ref f))/\pR F M r.id=some r.m:=by
 obtain⟨f,fd,a,q⟩:=I.qF.get r hr;have s:=eF.mp X.sF r hr;simp only[Bool.and_eq_true,decide_eq_true_eq] at s;have o:=X.oF.get r hr;refine⟨f,fd,⟨q,q.binds (X.bF.get r hr),EO s.1.1,o,s.1.2,s.2⟩,a,?_⟩;unfold pR;rw[yO (f:=(·.id)) (dc.mp X.nd).1 r hr]
theorem FC(I:jY K c F M tp mt)(X:jX c F M tp mt)(r:RM)(hr:r∈M):∃C f fd,iw K c (r.d mt) r.m f fd/\PySem.W.nsIn K mainGlobals r.cl=some (some (.ref C))/\Meth K C r.nm f/\pR F M r.id=some r.m:=by
 obtain⟨C,f,fd,a,q1,q⟩:=I.qM.get r hr;have s:=eF.mp X.sM r hr;simp only[Bool.and_eq_true,decide_eq_true_eq] at s;have o:=X.oM.get r hr;refine⟨C,f,fd,⟨q,q.binds (X.bM.get r hr),EO s.1.1,o,s.1.2,s.2⟩,a,q1,?_⟩;have nd:=dc.mp X.nd;unfold pR;rw[OB (f:=λr:RF=>r.id) (g:=λr:RM=>r.id) (r:=r) (λz=>nd.2.2 _ z _ (aT.mpr ⟨r,hr,rfl⟩) rfl),yO (f:=λr:RM=>r.id) nd.2.1 r hr]
 rfl
theorem Oa(I:jY K c F M tp mt)(Y:jX c F M tp mt)(X:K.In h₀)(G:h₀.Ns mainGlobals mg)(con:∀x d,c.con.lookup x=some d->∃v u,mg x=some u/\RelV v u/\∀ρ H,d8 K ρ H d v)(oH:∀x kvs,c.gd.lookup x=some kvs->∃A vs,mg x=some (.ref A)/\sJ K w.params A vs/\Z4 K kvs vs):lQ w K mg c (pR F M):=by
 refine⟨λx i hx=>?_,λx i hx=>?_,λx y i C hx hC=>?_,λf y C hx hC=>?_,con,λx hx=>?_,λx hx=>?_,λx y C C' hx hy hC wZ=>Mf I.xm hx hy hC wZ,oH⟩
 ·have hm:=aI hx;rw[Y.cf] at hm;obtain⟨r,hr,e⟩:=aT.mp hm;cases e;obtain⟨f,fd,O,a,t⟩:=FA I Y r hr;exact⟨_,_,f,fd,t,O,bE X G a⟩
 ·have hm:=aI hx;have h1:=eF.mp Y.ci _ hm;obtain⟨r,hr,e⟩:=eE.mp h1;simp only[Bool.and_eq_true,decide_eq_true_eq] at e;obtain⟨⟨e1,e2⟩,e3⟩:=e;have e3:=gL e3;obtain⟨C,f,fd,O,a,q,t⟩:=FC I Y r hr;obtain⟨C',a',hc,mk,kp⟩:=I.qC.get _ hm;rw[e1] at a;cases a.symm.trans a';rw[e2] at q;rw[e3] at t;exact⟨C,_,_,f,fd,t,O,bE X G a,a,hc,⟨mk,q.at_,q.fn,kp⟩⟩
 ·rw[Y.cm] at hx;obtain⟨r,hr,e⟩:=aT.mp hx;cases e;obtain⟨C',f,fd,O,a,q,t⟩:=FC I Y r hr;cases a.symm.trans hC;exact⟨_,_,f,fd,t,O,q⟩
 ·obtain⟨C',a,q⟩:=I.qA.get _ hx;cases a.symm.trans hC;exact q
 ·exact PySem.W.mg_none_of X G (I.qB.get x (by simpa using hx))
 ·obtain⟨C,a,q⟩:=I.qX.get x (by simpa using hx);exact⟨_,bE X G a,a,λbase lA rV=>⟨_,_,_,_,Uh lA rV a q,PySem.F.excBase_ValueError⟩⟩
end
end M

namespace M
open PySem L2
set_option hygiene false
local macro_rules|`(tactic|walk_at"w1")=>`(tactic|with_reducible first|refine P7 ?_|refine zQ ?_|refine sT ?_|refine LR ?_|refine Og ?_|refine LW ?_|refine FH ?_|refine vC ?_|refine Gj ?_|refine E0 ?_|refine vD ?_|(refine w_var (d:=?_) ?_ ?_;rotate_left;·with_unfolding_all rfl)|refine w_lit ?_|refine vh ?_|refine CG ?_|refine JX ?_|refine Oi ?_|refine Wr ?_|refine w_and ?_|refine w_or ?_|refine w_not ?_|refine w_ite ?_|refine yB ?_|refine vE ?_|refine tJ ?_|refine zP ?_|refine X0 ?_|refine Oj ?_|refine LU ?_|refine Ol ?_|refine Gk ?_|refine Gm ?_|refine JZ ?_|refine J' ?_|refine LP ?_|refine Pm ?_|refine Pl ?_|refine Pk ?_|refine Pj ?_|refine Kd ?_|refine BX ?_|refine Ck ?_|refine BY ?_|refine Ke ?_|refine Cf ?_|refine Cd ?_|refine Ce ?_|refine Ca ?_|refine BZ ?_|refine Cb ?_|refine JH ?_|refine Kf ?_|refine Cj ?_|refine Cg ?_|refine Ci ?_|refine FQ ?_|refine JU ?_|refine uW ?_|refine Mj ?_|refine kK ?_|refine I9 ?_|refine Cr ?_|refine Pz ?_|refine AZ ?_|refine vM ?_|refine vK ?_|refine vL ?_|refine AI ?_|refine KC ?_|refine Ax ?_)
local macro_rules|`(tactic|walk_at"w2")=>`(tactic|repeat(with_reducible first|walk_at "w1"|refine zH (by simp) ?_|refine zG (by simp) ?_|refine n9 (a8 (by assumption)) (by with_unfolding_all rfl) ?_|refine L1 (a8 (by assumption)) ?_|refine uu (by unfold V8;decide) ?_))
local macro_rules|`(tactic|walk_at"w3")=>`(tactic|repeat(with_reducible first|walk_at "w1"|refine zH (by simp) ?_|refine zG (by simp) ?_|refine n9 (a8 (by assumption)) (by with_unfolding_all rfl) ?_|refine L1 (a8 (by assumption)) ?_|refine uu (by unfold V8;decide) ?_|refine And.intro (show List.length _ <= 1000 from by simp) ?_|refine C4 (by with_unfolding_all rfl) ?_|refine E3 ?_|refine U0 (by with_unfolding_all rfl) ?_))
local macro_rules|`(tactic|walk_at"")=>`(tactic|repeat(with_reducible first|walk_at "w1"|refine Ws ?_|refine LV ?_|refine Oh ?_|refine Kg ?_|refine Az ?_|refine Ay ?_|refine max2 ?_|refine min2 ?_|refine Kq ?_|refine U5 ?_|refine Je ?_|refine BE ?_|refine zH (by simp) ?_|refine zG (by simp) ?_|refine n9 (a8 (by assumption)) (by with_unfolding_all rfl) ?_|refine L1 (a8 (by assumption)) ?_|refine uu (by unfold V8;decide) ?_|refine And.intro (show List.length _ <= 1000 from by simp) ?_|refine C4 (by with_unfolding_all rfl) ?_|refine E3 ?_|refine U0 (by with_unfolding_all rfl) ?_|refine And.intro (yp (by assumption)) ?_|refine And.intro (MB (by assumption)) ?_|refine And.intro (PY (by assumption)) ?_|refine L5 (by decide) ?_|refine LZ (by decide) (by decide) ?_|refine wb ?_))
set_option hygiene true
abbrev cJ(a:ME):ME:=.cons a .nil
abbrev bQ(a b:ME):ME:=.cons a (.cons b .nil)
abbrev de(a b c:ME):ME:=.cons a (.cons b (.cons c .nil))
abbrev jC(a b c d:ME):ME:=.cons a (.cons b (.cons c (.cons d .nil)))
abbrev kW(a b c d e:ME):ME:=.cons a (.cons b (.cons c (.cons d (.cons e .nil))))
abbrev oG(a b c d e f:ME):ME:=.cons a (.cons b (.cons c (.cons d (.cons e (.cons f .nil)))))
abbrev IY(a b c d e f g:ME):ME:=.cons a (.cons b (.cons c (.cons d (.cons e (.cons f (.cons g .nil))))))
abbrev bZ(o:PySem.CmpOp)(a b:ME):ME:=.dU (.prim (.cmp o) (.cons a (.cons b .nil)))
abbrev cq(a b:ME):ME:=.prim .ix (.cons a (.cons b .nil))
abbrev aH(a:Int):ME:=.lit (.int a)
abbrev dg(a:PySem.Str):ME:=.lit (.str a)
abbrev cj(p:Pr)(a:ME):ME:=.prim p (.cons a .nil)
abbrev br(p:Pr)(a b:ME):ME:=.prim p (.cons a (.cons b .nil))
abbrev aw:ME:=.var 0
abbrev aJ:ME:=.var 1
abbrev mY:ME:=.var 10
abbrev jS:ME:=.var 12
abbrev qO:ME:=.var 13
abbrev mX:ME:=.var 15
abbrev qN:ME:=.var 16
abbrev aL:ME:=.var 2
abbrev aV:ME:=.var 3
abbrev bJ:ME:=.var 4
abbrev cG:ME:=.var 5
abbrev df:ME:=.var 6
abbrev fe:ME:=.var 7
abbrev gz:ME:=.var 8
abbrev iF:ME:=.var 9
def u3:aN:=⟨2,5,(.seq (.ifs (.cB (bZ .Lt (cq aw (aH 2)) aJ) (bZ .Lt (cq aw (aH 1)) (cj .len (cq aw (aH 0))))) (.seq (.set 2 (cq (cq aw (aH 0)) (cq aw (aH 1)))) (.seq (.dz aw (aH 1) (br (.bin .Add) (cq aw (aH 1)) (aH 1))) (.seq (.dz aw (aH 2) (aH 0)) (.seq (.ifs (bZ .GtE aL (br (.bin .Pow) (aH 10) (aH 18))) (.seq (.dz aw (aH 2) aL) .pass) (.seq (.dz aw (aH 3) (br (.bin .Mod) (br (.bin .Add) (br (.bin .Add) (br (.bin .Mult) (cq aw (aH 3)) (aH 48271)) (br (.bin .Mult) (br (.bin .Mod) aL (aH 2147483629)) (aH 69621))) (aH 12345)) (aH 2147483647))) .pass)) .pass)))) .pass) (.seq (.ifs (bZ .GtE (cq aw (aH 2)) aJ) (.seq (.set 3 (br (.bin .Mod) (cq aw (aH 2)) aJ)) (.seq (.dz aw (aH 2) (br (.bin .FloorDiv) (cq aw (aH 2)) aJ)) (.seq (.ret aV) .pass))) .pass) (.seq (.set 4 (cq aw (aH 3))) (.seq (.dz aw (aH 3) (br (.bin .Mod) (br (.bin .Add) (br (.bin .Add) (br (.bin .Mult) (br (.bin .Mod) (br (.bin .Mult) bJ bJ) (aH 2147483629)) (aH 5)) (br (.bin .Mult) bJ (aH 16811))) (aH 2531011)) (aH 2147483647))) (.seq (.ret (br (.bin .Mod) (br (.bin .Add) (br (.bin .FloorDiv) (cq aw (aH 3)) (aH 59)) (br (.bin .Mult) (br (.bin .Mod) (cq aw (aH 3)) (aH 8191)) (aH 31))) aJ)) .pass)))))⟩
def Y1:aN:=⟨1,2,(.seq (.set 1 (.call 4 (bQ aw (br (.bin .Pow) (aH 10) (aH 9))))) (.seq (.ifs (bZ .Eq (.call 4 (bQ aw (aH 2))) (aH 0)) (.seq (.set 1 (br (.bin .Add) aJ (br (.bin .Pow) (aH 10) (aH 25)))) .pass) .pass) (.seq (.ifs (bZ .Eq (.call 4 (bQ aw (aH 2))) (aH 0)) (.seq (.ret (br (.bin .Sub) (cj (.un .USub) (aH 1)) aJ)) .pass) .pass) (.seq (.ret aJ) .pass))))⟩
structure f6(g:G)(d:Nat):Prop where
 ex:∃(s:Nat) (p b r:Int) (xs:List Int),g[d]?=some (.lst [.ref s,.int p,.int b,.int r])/\g[s]?=some (.lst (xs.map .int))/\s<d/\0<=p/\0<=b/\0<=r/\r<2147483647
structure Gr(d:Nat)(g g':G):Prop where
 len:g.length<=g'.length
 old:∀i,i≠d->i<g.length->g'[i]?=g[i]?
theorem Gr.refl(d:Nat)(g:G):Gr d g g:=⟨ak _,λ_ _ _=>rfl⟩
theorem Gr.trans{d:Nat}{g g1 g2:G}(a:Gr d g g1)(b:Gr d g1 g2):Gr d g g2:=⟨aO a.len b.len,λi h1 h2=>(b.old i h1 (ao h2 a.len)).trans (a.old i h1 h2)⟩
theorem Gr.set(d:Nat)(g:G)(o:O):Gr d g (g.set d o):=⟨by simp,λi h1 h2=>aB (bR h1)⟩
theorem Gr.snoc(d:Nat)(g:G)(o:O):Gr d g (g++[o]):=⟨by simp,λi h1 h2=>aA h2⟩
theorem Gr.at{d:Nat}{g g':G}(h:Gr d g g'){i:Nat}{o:O}(hi:i≠d)(e:g[i]?=some o):g'[i]?=some o:=(h.old i hi (av.mp e).1).trans e
theorem p9{g:G}{i:Nat}{o:O}(h:g[i]?=some o):i<g.length:=(av.mp h).1
theorem f6.lt{g:G}{d:Nat}(h:f6 g d):d<g.length:=by
 obtain⟨_,_,_,_,_,e,_⟩:=h.ex;exact p9 e
theorem f6.snoc{g:G}{d:Nat}(h:f6 g d)(o:O):f6 (g++[o]) d:=by
 obtain⟨s,p,b,r,xs,e1,e2,q⟩:=h.ex;exact⟨s,p,b,r,xs,by rw[aA (p9 e1)];exact e1,by rw[aA (p9 e2)];exact e2,q⟩
def i0:MS->MS
 |.seq _ b=>b
 |x=>x
theorem yi{i j:Int}(h1:-(2 ^ 64)<i)(h2:i<2 ^ 64):oR i j:=.inl ⟨h1,h2⟩
theorem Q9{i j:Int}(h1:-(2 ^ 64)<j)(h2:j<2 ^ 64):oR i j:=.inr ⟨h1,h2⟩
theorem Ut{P:eG}{d:Nat}{n:Int}{g:G}{Q:KD}{E:KX}{N:Ends}{c2:Option D}(hN:N.rt=Q)(D0:f6 g d)(hn:0<n)(ng:n<1073741824)(h:∀r g',0<=r->r<n->f6 g' d->Gr d g g'->Q (.int r) g'):wpS P (i0 u3.body) N [some (.ref d),some (.int n),c2,none,none] g E:=by
 obtain⟨s,p,b,r,xs,e1,e2,mE,hp,hb,hr,pw⟩:=D0.ex;have dR:=p9 e1;subst hN;dsimp[u3,i0];walk_at "w2";refine if2 (λc=>?_) (λc=>?_)
 ·walk_at "w2";refine L5 hn ?_;walk_at "w2";refine ur ⟨hn,ng⟩ ?_;walk_at "w2";refine N6 e1 (by with_unfolding_all rfl) ?_;walk_at "w2";refine h _ _ (dF _ (by omega)) (cU _ hn) ⟨s,p,b / n,r,xs,?_,?_,mE,hp,Int.ediv_nonneg hb (by omega),hr,pw⟩ (Gr.set d g _)
  ·rw[aP dR];rfl
  ·rw[aB (bH mE)];exact e2
 ·walk_at "w2";have AJ:-(2 ^ 64)<r/\r<2 ^ 64:=⟨by omega,by omega⟩
  refine L4 (yi AJ.1 AJ.2) ?_;walk_at "w2";refine L5 (by decide) ?_;walk_at "w2";refine L4 (Q9 (by decide) (by decide)) ?_;walk_at "w2";refine L4 (Q9 (by decide) (by decide)) ?_;walk_at "w2";refine L5 (by decide) ?_;walk_at "w2";refine N6 e1 (by with_unfolding_all rfl) ?_;generalize jm:(r*r % 2147483629*5+r*16811+2531011) % 2147483647=r';have q0:0<=r':=by rw[<- jm];exact dF _ (by decide)
  have q1:r'<2147483647:=by rw[<- jm];exact cU _ (by decide)
  have Jw:(g.set d (.lst [.ref s,.int p,.int b,.int r']))[d]?=some (.lst [.ref s,.int p,.int b,.int r']):=aP dR;show wpS P _ _ _ (g.set d (.lst [.ref s,.int p,.int b,.int r'])) E;walk_at "w2";refine ur ⟨by decide,by decide⟩ ?_;walk_at "w2";refine L5 (by decide) ?_;walk_at "w2";refine L4 (Q9 (by decide) (by decide)) ?_;walk_at "w2";refine L5 hn ?_;walk_at "w2";refine h _ _ (dF _ (by omega)) (cU _ hn) ⟨s,p,b,r',xs,Jw,?_,mE,hp,hb,q0,q1⟩ (Gr.set d g _);rw[aB (bH mE)];exact e2
theorem d0{T:Nat->Option aN}(hT:T 4=some u3){k d:Nat}{n:Int}{g:G}{Q:KD}{E:KX}(D0:f6 g d)(hn:0<n)(ng:n<1073741824)(h:∀r g',0<=r->r<n->f6 g' d->Gr d g g'->Q (.int r) g'):b9 T (k+1) 4 [.ref d,.int n] g Q E:=by
 obtain⟨s,p,b,r,xs,e1,e2,mE,hp,hb,hr,pw⟩:=D0.ex;have dR:=p9 e1;refine call_of hT rfl ?_;have tail:∀(g':G) (c2:Option D),f6 g' d->Gr d g g'->wpS (b9 T k) (i0 u3.body) ⟨λ_ g'=>Q .bw g',Q,λ_ _=>False,λ_ _=>False⟩ [some (.ref d),some (.int n),c2,none,none] g' E :=
  λg' c2 D1 gr=>Ut rfl D1 hn ng λr g2 a b c e=>h r g2 a b c (gr.trans e)
 dsimp[u3,d4,List.replicate];walk_at "w2";refine if2 (λc=>?_) (λc=>?_)
 ·walk_at "w2";refine if2 (λc'=>?_) (λc'=>?_)
  ·walk_at "w2";have iJ:p.toNat<xs.length:=by
    rw[aj] at c';omega
   have ea:fB (xs.map D.int) p=some (.int xs[p.toNat]):=by
    have:=R7 (xs:=xs.map D.int) (j:=p.toNat) (v:=.int xs[p.toNat]) (by rw[aD,aq iJ];rfl)
    rwa [show((p.toNat:Nat):Int)=p by omega] at this
   refine n9 (a8 e2) ea ?_;generalize xs[p.toNat]=cell;walk_at "w2";refine N6 e1 (by with_unfolding_all rfl) ?_;have f1:(g.set d (.lst [.ref s,.int (p+1),.int b,.int r]))[d]?=some (.lst [.ref s,.int (p+1),.int b,.int r]):=aP dR;show wpS (b9 T k) _ _ _ (g.set d (.lst [.ref s,.int (p+1),.int b,.int r])) E;walk_at "w2";refine N6 f1 (by with_unfolding_all rfl) ?_;rw[qd];have f2:(g.set d (.lst [.ref s,.int (p+1),.int 0,.int r]))[d]?=some (.lst [.ref s,.int (p+1),.int 0,.int r]):=aP dR;show wpS (b9 T k) _ _ _ (g.set d (.lst [.ref s,.int (p+1),.int 0,.int r])) E;walk_at "w2";refine if2 (λc2=>?_) (λc2=>?_)
   ·walk_at "w2";refine N6 f2 (by with_unfolding_all rfl) ?_;rw[qd];refine tail _ _ ⟨s,p+1,cell,r,xs,aP dR,by rw[aB (bH mE)];exact e2,mE,by omega,?_,hr,pw⟩ (Gr.set d g _);have:(10:Int) ^ (18:Int).toNat<=cell:=c2;have BB:(0:Int)<=10 ^ (18:Int).toNat:=by decide
    omega
   ·walk_at "w2";refine L4 (Q9 (by decide) (by decide)) ?_;walk_at "w2";refine L5 (by decide) ?_;walk_at "w2";refine L4 (Q9 (by decide) (by decide)) ?_;walk_at "w2";refine L5 (by decide) ?_;walk_at "w2";refine N6 f2 (by with_unfolding_all rfl) ?_;rw[qd];exact tail _ _ ⟨s,p+1,0,_,xs,aP dR,by rw[aB (bH mE)];exact e2,mE,by omega,by decide,dF _ (by decide),cU _ (by decide)⟩ (Gr.set d g _)
  ·walk_at "w1";exact tail _ _ D0 (Gr.refl _ _)
 ·walk_at "w1";walk_at "w1";exact tail _ _ D0 (Gr.refl _ _)
theorem uJ{T:Nat->Option aN}(hT:T 4=some u3)(Iz:T 5=some Y1){k d:Nat}{g:G}{Q:KD}{E:KX}(D0:f6 g d)(h:∀r g',f6 g' d->Gr d g g'->Q (.int r) g'):b9 T (k+2) 5 [.ref d] g Q E:=by
 refine call_of Iz rfl ?_;dsimp[Y1,d4,List.replicate];walk_at "w2";refine d0 hT D0 (by decide) (by decide) λr1 g1 _ _ D1 G1=>?_;walk_at "w2";refine d0 hT D1 (by decide) (by decide) λr2 g2 _ _ D2 G2=>?_;walk_at "w2";have Gu:=G1.trans G2;have last:∀(x:Int),wpS (b9 T (k+1)) (i0 (i0 Y1.body)) ⟨λ_ g'=>Q .bw g',Q,λ_ _=>False,λ_ _=>False⟩ [some (.ref d),some (.int x)] g2 E:=λx=>by
  dsimp[Y1,i0];walk_at "w2";refine d0 hT D2 (by decide) (by decide) λr3 g3 _ _ D3 G3=>?_;walk_at "w2";refine if2 (λc=>?_) (λc=>?_)
  ·walk_at "w2";exact h _ _ D3 (Gu.trans G3)
  ·walk_at "w2";exact h _ _ D3 (Gu.trans G3)
 refine if2 (λc=>?_) (λc=>?_)
 ·refine P7 ?_;refine sT ?_;refine vh ?_;walk_at "w1";refine vh ?_;walk_at "w1";walk_at "w1";refine uu (by unfold V8;decide) ?_;walk_at "w1";exact last _
 ·exact last _
def Y0:aN:=⟨1,1,(.seq (.ret (.cB (br .isin aw (.lit (.ty "int"))) (.cO (br .isin aw (.lit (.ty "bool")))))) .pass)⟩
def O6:aN:=⟨3,3,(.seq (.ret (.cB (.call 38 (cJ aw)) (.chain .LtE .LtE aJ aw aL))) .pass)⟩
structure NF(T:Nat->Option aN):Prop where
 nf:T 1=some O6
 is:T 38=some Y0
def B3:aN:=⟨1,3,(.seq (.set 1 (aH 0)) (.seq (.cH (.one 2) (.dY aw) (.seq (.ifs (.cO (.dU (.call 1 (de aL aJ (aH 7))))) (.seq (.ret (.lit (.bl false))) .pass) .pass) (.seq (.set 1 (br (.bin .Add) aL (aH 1))) .pass))) (.seq (.ret (.lit (.bl true))) .pass)))⟩
def uD:aN:=⟨1,1,(.seq (.ret (.prim .lst (jC (cj .list (br (.je false true) aw (aH 63))) (aH 0) (aH 0) (aH 29)))) .pass)⟩
def G0:aN:=⟨1,1,(.seq (.ret (br (.cmp .Eq) (cj .list aw) (.comp [0] 3 (.one 2) (.dN (aH 8)) (bZ .In aL aw) aL))) .pass)⟩
theorem C6{g:G}{n:Nat}:∀ms:List Int,(ms.map D.int).mapM (rd g n)=some (ms.map PyData.int)
 |[]=>rfl
 |m::r=>by
  rw[aU,mm,C6 r];cases n<;>rfl
theorem lay_ints:∀ms:List Int,PyData.canLayAll0 (ms.map PyData.int)=true
 |[]=>by simp[PyData.canLayAll0]
 |m::r=>by simp[PyData.canLayAll0,PyData.canLay0,lay_ints r]
theorem P4:∀ms ns:List Int,PyData.eqvAll (ms.map PyData.int) (ns.map PyData.int)=decide (ms=ns)
 |[],[]=>by simp[PyData.eqvAll]
 |[],_::_=>by simp[PyData.eqvAll]
 |_::_,[]=>by simp[PyData.eqvAll]
 |m::r,n::q=>by
  simp only[List.map_cons,PyData.eqvAll,PyData.eqv,P4 r q];by_cases h:m=n
  ·subst h;simp
  ·simp[h]
theorem Dz{g:G}{ms:List Int}{i:Int}{k:Bool->Prop}(h:k (ms.any λm=>m==i)):mZ g (.int i) (.tup (ms.map .int)) k:=by
 refine⟨_,.inr ⟨_,_,_,rfl,C6 ms,rfl,lay_ints ms,by simp[PyData.canLay0],rfl⟩,?_⟩;rw[qg];exact h
theorem Dt{g:G}{a b:Nat}{ms ns:List Int}{k:Bool->Prop}(ha:d5 g a=some (ms.map .int))(hb:d5 g b=some (ns.map .int))(h:k (decide (ms=ns))):pI g (.ref a) (.ref b) k:=by
 refine⟨_,.inr (.inr (.inr ⟨.list (ms.map .int),.list (ns.map .int),?_,?_,?_,?_,rfl⟩)),?_⟩
 ·simp only[rd];rw[ha];dsimp only;rw[C6];rfl
 ·simp only[rd];rw[hb];dsimp only;rw[C6];rfl
 ·simp[PyData.canLay0,lay_ints]
 ·simp[PyData.canLay0,lay_ints]
 ·simp only[PyData.eqv,P4];exact h
section
variable{T:Nat->Option aN}{k d:Nat}{g:G}{Q:KD}{E:KX}
theorem Y6(h1:NF T){i:Int}(h:Q (.bl true) g):b9 T (k+1) 38 [.int i] g Q E:=by
 refine call_of h1.is rfl ?_;dsimp[Y0,d4,List.replicate];walk_at "w2";refine Bc (c:="int") (b:=true) (by decide) rfl ?_;walk_at "w2";refine Bc (c:="bool") (b:=false) (by decide) rfl ?_;walk_at "w2";exact h
theorem v7(h1:NF T){i l m:Int}(h:Q (.bl (decide (l<=i)&&decide (i<=m))) g):b9 T (k+2) 1 [.int i,.int l,.int m] g Q E:=by
 refine call_of h1.nf rfl ?_;dsimp[O6,d4,List.replicate];walk_at "w2";refine Y6 h1 ?_;walk_at "w2";refine if2 (λc=>?_) (λc=>?_)
 ·rw[aM c] at h;walk_at "w2";exact h
 ·rw[aC c] at h;exact h
def gm:Int->List Int->Bool
 |_,[]=>true
 |l,x::r=>(decide (l<=x)&&decide (x<=7))&&gm (x+1) r
theorem W5(h1:NF T)(h2:T 2=some B3){ms:List Int}(h:Q (.bl (gm 0 ms)) g):b9 T (k+3) 2 [.tup (ms.map .int)] g Q E:=by
 refine call_of h2 rfl ?_;dsimp[B3,d4,List.replicate];walk_at "w2";refine N4 (c8 T _) (Be (c8 T _) ?_);walk_at "w2";refine⟨_,rfl,_,λi Z g'=>g'=g/\∃(l:Int) (z:Option D),Z=[some (.tup (ms.map .int)),some (.int l),z]/\gm 0 ms=gm l (ms.drop i),λ_ _ _ _=>A9,⟨rfl,0,none,rfl,rfl⟩,λi x Z g' hx p=>?_,λZ g' p=>?_⟩
 ·obtain⟨rfl,l,z,rfl,e⟩:=p;rw[aD] at hx;cases em:ms[i]? with
  |none=>rw[em] at hx;cases hx
  |some m =>
   rw[em] at hx;cases hx;have hi:=(av.mp em).1;have ed:ms.drop i=m::ms.drop (i+1):=by
    rw[fo hi]
    congr 1
    exact(av.mp em).2
   rw[ed] at e;simp only[gm] at e;show wpS _ _ _ _ _ _;walk_at "w2";refine v7 h1 ?_;walk_at "w2";cases hc:(decide (l<=m)&&decide (m<=7)) with
   |true =>
    rw[hc,Bool.true_and] at e;show wpS _ _ _ _ _ _;walk_at "w2";exact⟨rfl,m+1,some (.int m),rfl,e⟩
   |false =>
    rw[hc,mq] at e;rw[e] at h;show wpS _ _ _ _ _ _;walk_at "w2";exact h
 ·obtain⟨rfl,l,z,rfl,e⟩:=p;rw[gw (by simp)] at e;simp only[gm] at e;rw[e] at h;show wpS _ _ _ _ _ _;walk_at "w2";exact h
theorem Vx(h3:T 3=some uD){a:Nat}{ns:List Int}(hg:g[a]?=some (.mJ (ns.map .int)))(h:∀d g',f6 g' d->g.length<=d->(∀i,i<g.length->g'[i]?=g[i]?)->Q (.ref d) g'):b9 T (k+1) 3 [.ref a] g Q E:=by
 refine call_of h3 rfl ?_;dsimp[uD,d4,List.replicate];walk_at "w2";refine X4 (TN hg) ?_;walk_at "w2";refine uC (l:=cut (ns.map D.int) none (some 63)) (a8 (by simp)) ?_;walk_at "w2";have ec:cut (ns.map D.int) none (some 63)=(cut ns none (some 63)).map D.int:=by
  unfold cut;simp[List.map_take,List.map_drop]
 refine h _ _ ⟨g.length+1,0,0,29,cut ns none (some 63),?_,?_,?_,by decide,by decide,by decide,by decide⟩ (by simp) (λi hi=>?_)
 ·simp
 ·rw[<- ec];simp
 ·simp
 ·simp[List.getElem?_append,hi,Nat.lt_of_lt_of_le hi (by omega:g.length<=g.length+1),Nat.lt_of_lt_of_le hi (by omega:g.length<=g.length+1+1)]
theorem Eo(h8:T 8=some G0){ms:List Int}(h:∀g',Gr d g g'->(f6 g d->f6 g' d)->Q (.bl (decide (ms=((List.range 8).map λ(n:Nat)=>(n:Int)).filter λs=>ms.any λm=>m==s))) g'):b9 T (k+1) 8 [.tup (ms.map .int)] g Q E:=by
 refine call_of h8 rfl ?_;dsimp[G0,d4,List.replicate];walk_at "w2";refine Eh (c8 T _) ?_;walk_at "w2";refine⟨8,rfl,by decide,λi ys Z g'=>g'=g++[.lst (ms.map .int)]/\ys.length<=i/\(∃z w,Z=[some (.tup (ms.map .int)),z,w])/\ys=((((List.range i).map λ(n:Nat)=>(n:Int)).filter λs=>ms.any λm=>m==s).map D.int),⟨rfl,by simp,⟨none,none,rfl⟩,rfl⟩,λi ys Z g' p=>p.2.1,λi ys Z g' hi p=>?_,λys Z g' p=>?_⟩
 ·obtain⟨rfl,hl,⟨z,w,rfl⟩,e⟩:=p;show cW _ _ _ _ _ _;walk_at "w2";refine sA (Dz ?_);walk_at "w2";have er:(List.range (i+1)).map (λ(n:Nat)=>(n:Int))=(List.range i).map (λ(n:Nat)=>(n:Int))++[(i:Int)]:=by rw[kQ];simp
  cases hc:(ms.any λm=>m==(i:Int)) with
  |true =>
   refine kK ?_;walk_at "w2";refine⟨rfl,by simp;omega,⟨_,_,rfl⟩,?_⟩;rw[er,dJ,cx,<- e];simp[hc]
  |false =>
   refine I9 ?_;refine⟨rfl,by omega,⟨_,_,rfl⟩,?_⟩;rw[er,dJ,cx,<- e];simp[hc]
 ·obtain⟨rfl,hl,_,e⟩:=p;rw[e];refine zZ (Dt (ms:=ms) (a8 (by simp)) (a8 (by simp;rfl)) ?_);exact h _ ((Gr.snoc d g _).trans (Gr.snoc d _ _)) λD0=>(D0.snoc _).snoc _
end
theorem yJ{α β:Type}(f:α->β)(l:List α)(lo hi:Option Int):cut (l.map f) lo hi=(cut l lo hi).map f:=by
 unfold cut;simp[List.map_take,List.map_drop]
theorem Fb{α:Type}(l:List α)(lo hi:Option Int):(cut l lo hi).length<=l.length:=by
 unfold cut;rw[bX,fW];omega
theorem zy:∀{ms:List Int} {l:Int},ms.Pairwise (· < ·)->(∀m∈ms,l<=m/\m<=7)->gm l ms=true
 |[],_,_,_=>rfl
 |m::r,l,hp,h=>by
  obtain⟨h1,h2⟩:=cT.mp hp;have hm:=h m (by simp);simp only[gm];rw[aM hm.1,aM hm.2,zy h2 λx hx=>⟨by have:=h1 x hx;omega,(h x (by simp[hx])).2⟩]
  rfl
theorem p8{α:Type}{l:List α}{r:Int}(h0:0<=r)(h1:r<l.length):∃v,fB l r=some v/\v∈l:=by
 have hi:r.toNat<l.length:=by omega
 refine⟨l[r.toNat],?_,cL hi⟩;have:=R7 (xs:=l) (j:=r.toNat) (v:=l[r.toNat]) (aq hi)
 rwa [show((r.toNat:Nat):Int)=r by omega] at this
section
variable{T:Nat->Option aN}{k d:Nat}{g:G}{Q:KD}{E:KX}
end
theorem DG(ms:List Int):gm 0 ms=decide (ms=((List.range 8).map λ(n:Nat)=>(n:Int)).filter λs=>ms.any λm=>m==s):=by
 rw[bp,bP];constructor
 ·intro h;have key:∀(ms:List Int) (l:Int),gm l ms=true->ms.Pairwise (· < ·)/\∀m∈ms,l<=m/\m<=7:=by
   intro ms
   induction ms with
   |nil=>intro l _;exact⟨List.Pairwise.nil,by simp⟩
   |cons m r ih =>
    intro l h;simp only[gm,Bool.and_eq_true,decide_eq_true_eq] at h;obtain⟨⟨h1,h2⟩,h3⟩:=h;obtain⟨p1,p2⟩:=ih (m+1) h3;refine⟨cT.mpr ⟨λx hx=>by have:=p2 x hx;omega,p1⟩,λx hx=>?_⟩;rcases az.mp hx with z|z
    ·subst z;exact⟨h1,h2⟩
    ·have:=p2 x z;omega
  obtain⟨p1,p2⟩:=key ms 0 h;have uniq:∀(xs ys:List Int),xs.Pairwise (· < ·)->ys.Pairwise (· < ·)->(∀z,z∈xs↔z∈ys)->xs=ys:=by
   intro xs
   induction xs with
   |nil =>
    intro ys _ _ h;cases ys with
    |nil=>rfl
    |cons y r=>exact absurd ((h y).mpr (by simp)) (by simp)
   |cons x xs ih =>
    intro ys hx hy h;cases ys with
    |nil=>exact absurd ((h x).mp (by simp)) (by simp)
    |cons y ys =>
     obtain⟨a1,a2⟩:=cT.mp hx;obtain⟨b1,b2⟩:=cT.mp hy;have Jh:x=y:=by
      rcases az.mp ((h x).mp (by simp)) with z|z
      ·exact z
      ·rcases az.mp ((h y).mpr (by simp)) with w|w
       ·exact w.symm
       ·have:=b1 x z;have:=a1 y w;omega
     subst Jh
     congr 1
     refine ih ys a2 b2 λz=>⟨λhz=>?_,λhz=>?_⟩
     ·rcases az.mp ((h z).mp (by simp[hz])) with w|w
      ·subst w;exact absurd (a1 z hz) (by omega)
      ·exact w
     ·rcases az.mp ((h z).mpr (by simp[hz])) with w|w
      ·subst w;exact absurd (b1 z hz) (by omega)
      ·exact w
  refine uniq _ _ p1 ?_ λz=>?_
  ·refine ia _ ?_
   decide
  ·simp only[List.mem_filter,List.any_eq_true,beq_iff_eq,exists_eq_right,List.mem_map,List.mem_range];refine⟨λhz=>⟨⟨z.toNat,by have:=p2 z hz;omega,by have:=p2 z hz;omega⟩,hz⟩,λhz=>hz.2⟩
 ·intro h;rw[h];refine zy ?_ λm hm=>?_
  ·refine ia _ ?_
   decide
  ·obtain⟨hm,_⟩:=cg.mp hm;obtain⟨n,hn,rfl⟩:=aT.mp hm;have:=cv.mp hn;omega
def u4:aN:=⟨1,8,(.seq (.jP (.many [1,2,3,4,5]) aw) (.seq (.set 6 (.cB (.call 1 (de aJ (aH 1) (aH 99))) (.call 2 (cJ aL)))) (.seq (.set 7 (.cB (.call 1 (de aV (aH 1) (aH 99))) (.call 2 (cJ bJ)))) (.seq (.ret (.cB df (.cB fe (.call 1 (de cG (aH 0) (aH 9999)))))) .pass))))⟩
def C7:aN:=⟨1,1,(.seq (.ifs (.jg (.cO (.dU (.chain .LtE .LtE (aH 1) (cq aw (aH 0)) (aH 99)))) (.jg (.cO (.dU (.chain .LtE .LtE (aH 1) (cq aw (aH 2)) (aH 99)))) (.cO (.dU (.chain .LtE .LtE (aH 0) (cq aw (aH 4)) (aH 9999)))))) (.seq (.ret (.lit (.bl false))) .pass) .pass) (.seq (.ret (.cB (.call 8 (cJ (cq aw (aH 1)))) (.call 8 (cJ (cq aw (aH 3)))))) .pass))⟩
def K0:aN:=⟨2,10,(.seq (.set 2 (.call 4 (bQ aw (aH 12)))) (.seq (.jP (.many [3,4,5,6,7]) aJ) (.seq (.set 8 (cq (.prim .lst (oG (br .tup (aH 1) (aH 0)) (br .tup (aH 3) (aH 3)) (cj .tup (aH 8)) (br .tup (cj (.un .USub) (aH 1)) (aH 2)) (br .tup (aH 0) (aH 9)) (br .tup (aH 7) (br (.bin .Pow) (aH 10) (aH 20))))) (.call 4 (bQ aw (aH 6))))) (.seq (.set 9 (cq (.prim .lst (jC (aH 0) (aH 100) (cj (.un .USub) (aH 1)) (.call 5 (cJ aw)))) (.call 4 (bQ aw (aH 4))))) (.seq (.ifs (bZ .Eq aL (aH 0)) (.seq (.ret (.prim .tup (kW iF bJ cG df fe))) .pass) .pass) (.seq (.ifs (bZ .Eq aL (aH 1)) (.seq (.ret (.prim .tup (kW aV gz cG df fe))) .pass) .pass) (.seq (.ifs (bZ .Eq aL (aH 2)) (.seq (.ret (.prim .tup (kW aV bJ iF df fe))) .pass) .pass) (.seq (.ifs (bZ .Eq aL (aH 3)) (.seq (.ret (.prim .tup (kW aV bJ cG gz fe))) .pass) .pass) (.seq (.ifs (bZ .Eq aL (aH 4)) (.seq (.ret (.prim .tup (kW aV bJ cG df (cq (.prim .lst (jC (cj (.un .USub) (aH 1)) (aH 10000) (aH 9999) (.call 5 (cJ aw)))) (.call 4 (bQ aw (aH 4))))))) .pass) .pass) (.seq (.ret aJ) .pass))))))))))⟩
structure a9 where
 lo:Int
 lm:List Int
 up:Int
 um:List Int
 yr:Int
def a9.d(c:a9):D:=.tup [.int c.lo,.tup (c.lm.map .int),.int c.up,.tup (c.um.map .int),.int c.yr]
def k6(c:a9):Bool:=((decide (1<=c.lo)&&decide (c.lo<=99))&&gm 0 c.lm)&&(((decide (1<=c.up)&&decide (c.up<=99))&&gm 0 c.um)&&(decide (0<=c.yr)&&decide (c.yr<=9999)))
section
variable{T:Nat->Option aN}{k d:Nat}{g:G}{Q:KD}{E:KX}
theorem Rf(h1:NF T)(h2:T 2=some B3)(rS:T 12=some u4){c:a9}(h:Q (.bl (k6 c)) g):b9 T (k+4) 12 [c.d] g Q E:=by
 refine call_of rS rfl ?_;dsimp[u4,d4,List.replicate,a9.d];walk_at "w3";refine v7 h1 ?_;have s1:∀b:Bool,b=((decide (1<=c.lo)&&decide (c.lo<=99))&&gm 0 c.lm)->wpS (b9 T (k+3)) (i0 (i0 u4.body)) ⟨λ_ g'=>Q .bw g',Q,λ_ _=>False,λ_ _=>False⟩ [some c.d,some (.int c.lo),some (.tup (c.lm.map .int)),some (.int c.up),some (.tup (c.um.map .int)),some (.int c.yr),some (.bl b),none] g E:=by
  intro b hb;dsimp[u4,i0];walk_at "w3";refine v7 h1 ?_;have s2:∀b':Bool,b'=((decide (1<=c.up)&&decide (c.up<=99))&&gm 0 c.um)->wpS (b9 T (k+3)) (i0 (i0 (i0 u4.body))) ⟨λ_ g'=>Q .bw g',Q,λ_ _=>False,λ_ _=>False⟩ [some c.d,some (.int c.lo),some (.tup (c.lm.map .int)),some (.int c.up),some (.tup (c.um.map .int)),some (.int c.yr),some (.bl b),some (.bl b')] g E:=by
   intro b' iW;dsimp[u4,i0];have e:k6 c=(b&&(b'&&(decide (0<=c.yr)&&decide (c.yr<=9999)))):=by unfold k6;rw[hb,iW]
   rw[e] at h;walk_at "w3";cases b
   ·exact I9 h
   ·refine kK ?_;walk_at "w3";cases b'
    ·exact I9 h
    ·refine kK ?_;walk_at "w3";exact v7 h1 h
  refine uW ?_;cases hc:(decide (1<=c.up)&&decide (c.up<=99)) with
  |false=>exact I9 (s2 false (by rw[hc];rfl))
  |true =>
   refine kK ?_;walk_at "w1";walk_at "w1";walk_at "w1";walk_at "w1";exact W5 h1 h2 (s2 _ (by rw[hc];rfl))
 refine uW ?_;cases hc:(decide (1<=c.lo)&&decide (c.lo<=99)) with
 |false=>exact I9 (s1 false (by rw[hc];rfl))
 |true =>
  refine kK ?_;walk_at "w1";walk_at "w1";walk_at "w1";walk_at "w1";exact W5 h1 h2 (s1 _ (by rw[hc];rfl))
theorem UO(h8:T 8=some G0)(pH:T 13=some C7){c:a9}(h:∀g',Gr d g g'->(f6 g d->f6 g' d)->Q (.bl (k6 c)) g'):b9 T (k+2) 13 [c.d] g Q E:=by
 refine call_of pH rfl ?_;have no:k6 c=false->Q (.bl false) g:=λe=>by
  have:=h g (Gr.refl _ _) id
  rwa [e] at this
 dsimp[C7,d4,List.replicate,a9.d];walk_at "w3";have fin:k6 c=(gm 0 c.lm&&gm 0 c.um)->wpS (b9 T (k+1)) (i0 C7.body) ⟨λ_ g'=>Q .bw g',Q,λ_ _=>False,λ_ _=>False⟩ [some c.d] g E:=λe=>by
  dsimp[C7,i0,a9.d];walk_at "w3";refine Eo h8 (d:=d) λg1 G1 D1=>?_;rw[<- DG];refine uW ?_;have h':=h;rw[e] at h';cases hl:gm 0 c.lm with
  |false =>
   rw[hl,mq] at h';exact I9 (h' g1 G1 D1)
  |true =>
   rw[hl,Bool.true_and] at h';refine kK ?_;walk_at "w3";refine Eo h8 (d:=d) λg2 G2 D2=>?_;rw[<- DG];exact h' g2 (G1.trans G2) λz=>D2 (D1 z)
 have out:k6 c=false->wpS (b9 T (k+1)) (.seq (.ret (.lit (.bl false))) .pass) ⟨λgh g1=>wpS (b9 T (k+1)) (i0 C7.body) ⟨λ_ g'=>Q .bw g',Q,λ_ _=>False,λ_ _=>False⟩ gh g1 E,Q,λ_ _=>False,λ_ _=>False⟩ [some c.d] g E:=λe=>by
  walk_at "w3";exact no e
 refine if2 (λc1=>?_) (λc1=>?_)
 ·walk_at "w3";cases c2:decide (c.lo<=99) with
  |false=>exact out (by unfold k6;rw[c2];simp)
  |true =>
   walk_at "w3";refine if2 (λc3=>?_) (λc3=>?_)
   ·walk_at "w3";cases c4:decide (c.up<=99) with
    |false=>exact out (by unfold k6;rw[c4];simp)
    |true =>
     walk_at "w3";refine if2 (λc5=>?_) (λc5=>?_)
     ·walk_at "w3";cases c6:decide (c.yr<=9999) with
      |false=>exact out (by unfold k6;rw[c6];simp)
      |true=>exact fin (by unfold k6;rw[aM c1,c2,aM c3,c4,aM c5,c6];simp)
     ·walk_at "w3";exact no (by unfold k6;rw[aC c5];simp)
   ·walk_at "w3";exact no (by unfold k6;rw[aC c3];simp)
 ·walk_at "w3";exact no (by unfold k6;rw[aC c1];simp)
end
def M8:aN:=⟨2,5,(.seq (.set 2 (cj .list aJ)) (.seq (.set 3 (.prim .lst .nil)) (.seq (.cH (.one 4) (.dN (cj .len aJ)) (.seq (.expr (.dM .append aV (cJ (.dM .pop aL (cJ (.call 4 (bQ aw (cj .len aL)))))))) .pass)) (.seq (.ret aV) .pass))))⟩
theorem Ee{α:Type}:∀{l:List α} {j:Nat} (h:j<l.length),(l[j]::l.eraseIdx j).Perm l
 |a::r,0,_=>by simp
 |a::r,j+1,h=>by
  simp only[List.getElem_cons_succ,List.eraseIdx_cons_succ];exact(List.Perm.swap _ _ _).trans ((Ee (l:=r) (j:=j) (by simpa using h)).cons a)
theorem Gr.C0{d x:Nat}{g g':G}{o:O}(h:Gr d g g')(hx:g.length<=x):Gr d g (g'.set x o):=⟨by simp[h.len],λi h1 h2=>by rw[aB (by omega)];exact h.old i h1 h2⟩
theorem f6.C0{g:G}{d x:Nat}{o:O}(h:f6 g d)(hx:d<x):f6 (g.set x o) d:=by
 obtain⟨s,p,b,r,xs,e1,e2,hs,q⟩:=h.ex;exact⟨s,p,b,r,xs,by rw[aB (by omega)];exact e1,by rw[aB (by omega)];exact e2,hs,q⟩
theorem c7{g:G}{o:O}:(g++[o])[g.length]?=some o:=by simp
theorem i6{g:G}{i:Nat}{o o':O}(h:g[i]?=some o):(g++[o'])[i]?=some o:=by rw[aA (p9 h)];exact h
theorem get_set{g:G}{i:Nat}{o o':O}(h:g[i]?=some o):(g.set i o')[i]?=some o':=aP (p9 h)
theorem C9{g:G}{i j:Nat}{o o':O}(h:g[i]?=some o)(hn:j≠i):(g.set j o')[i]?=some o:=by rw[aB hn];exact h
section
variable{T:Nat->Option aN}{k d:Nat}{g:G}{Q:KD}{E:KX}
theorem Er(h4:T 4=some u3)(xf:T 21=some M8){a:Nat}{l:List D}(ha:g[a]?=some (.lst l))(hl:l.length<=1000)(hd:a≠d)(D0:f6 g d)(h:∀(l':List D) b g',l'.Perm l->g'[b]?=some (.lst l')->g.length<=b->f6 g' d->Gr d g g'->Q (.ref b) g'):b9 T (k+2) 21 [.ref d,.ref a] g Q E:=by
 refine call_of xf rfl ?_;dsimp[M8,d4,List.replicate];walk_at"";refine uC (a8 ha) ?_;walk_at"";have dl:=D0.lt;refine N4 (c8 T _) (pN (c8 T _) ?_);walk_at"";have ua:(g++[O.lst l]++[O.lst []])[a]?=some (.lst l):=i6 (i6 ha);refine L1 (a8 ua) ?_;refine ⟨_,rfl,by omega,by omega,j6 0 l.length,λi Z g'=>∃ left found w,Z=[some (.ref d),some (.ref a),some (.ref g.length),some (.ref (g.length + 1)),w]/\(left ++ found).Perm l/\left.length + i=l.length/\g'[g.length]?=some (.lst left)/\g'[g.length + 1]?=some (.lst found)/\f6 g' d/\Gr d g g',
  λi Z g p=>A9,?_,λi x Z g' hx p=>?_,λZ g' p=>?_⟩
 ·refine⟨l,[],none,?_,by simp,by simp,?_,?_,(D0.snoc _).snoc _,(Gr.snoc _ _ _).trans (Gr.snoc _ _ _)⟩
  ·simp
  ·exact i6 c7
  ·have:=c7 (g:=g++[O.lst l]) (o:=O.lst []);simpa using this
 ·obtain⟨left,found,w,rfl,hp,hn,e1,e2,D1,G1⟩:=p;obtain⟨hi,rfl⟩:=F7 hx;show wpS _ _ _ _ _ _;walk_at"";refine d0 (n:=(left.length:Int)) h4 D1 (by omega) (by omega) λr g2 r0 r1 D2 G2=>?_;have f1:=G2.at (by omega) e1;have f2:=G2.at (by omega) e2;have hr:r.toNat<left.length:=by omega
  walk_at"";refine KG (j:=r.toNat) f1 (by omega) (aq hr) (by omega) ?_;walk_at"";refine sR (C9 f2 (by omega)) ?_ ?_
  ·have:=hp.length_eq;simp at this;omega
  walk_at"";refine⟨_,_,_,rfl,?_,?_,C9 (get_set f1) (by omega),get_set (C9 f2 (by omega)),(D2.C0 (by omega)).C0 (by omega),((G1.trans G2).C0 (by omega)).C0 (by omega)⟩
  ·refine List.Perm.trans ?_ hp;have:=Ee hr;refine List.Perm.trans ?_ (List.Perm.append_right found this);simp only[List.cons_append];rw[<- fF];exact(List.perm_append_singleton _ _)
  ·rw[fj hr];omega
 ·obtain⟨left,found,w,rfl,hp,hn,e1,e2,D1,G1⟩:=p;show wpS _ _ _ _ _ _;walk_at"";rw[m7] at hn;have:left=[]:=eJ (by omega);subst this;exact h _ _ _ (by simpa using hp) e2 (by omega) D1 G1
end
def T6:aN:=⟨1,5,(.seq (.set 1 (.prim .lst (IY (.prim .tup .nil) (cj .tup (aH 0)) (br .tup (aH 0) (aH 1)) (cj .tup (aH 1)) (.prim .tup (de (aH 0) (aH 1) (aH 2))) (.prim .tup (jC (aH 0) (aH 1) (aH 2) (aH 7))) (cj .tup (aH 2))))) (.seq (.set 2 (cq aJ (.call 4 (bQ aw (cq (br .tup (aH 4) (aH 7)) (cj .int (br (.cmp .Eq) (.call 4 (bQ aw (aH 4))) (aH 0)))))))) (.seq (.set 3 (cq aJ (.call 4 (bQ aw (aH 5))))) (.seq (.set 4 (cq (.prim .lst (oG (aH 0) (aH 0) (aH 1400) (aH 1400) (aH 1401) (aH 1))) (.call 4 (bQ aw (aH 6))))) (.seq (.ret (.prim .tup (kW (br (.bin .Add) (aH 1) (.call 4 (bQ aw (aH 3)))) aL (br (.bin .Add) (aH 1) (.call 4 (bQ aw (aH 4)))) aV bJ))) .pass)))))⟩
def B2:aN:=⟨4,4,(.seq (.ifs (.jg (bZ .Eq (cj .len aJ) (aH 0)) (.cB (bZ .Lt (cj .len aJ) aV) (bZ .Eq (.call 4 (bQ aw (aH 3))) (aH 0)))) (.seq (.expr (.dM .append aJ (cJ aL))) (.seq (.ret (br (.bin .Add) aL (aH 1))) .pass)) .pass) (.seq (.ifs (bZ .Eq (.call 4 (bQ aw (aH 5))) (aH 0)) (.seq (.dz aJ (.call 4 (bQ aw (cj .len aJ))) aL) (.seq (.ret (br (.bin .Add) aL (aH 1))) .pass)) .pass) (.seq (.ret aL) .pass)))⟩
structure iQ(c:a9):Prop where
 good:k6 c=true
 l8:c.lm.length<=8
 u8:c.um.length<=8
theorem iQ.mk'{lo up yr:Int}{lm um:List Int}(h1:1<=lo)(h2:lo<=99)(h3:1<=up)(h4:up<=99)(h5:0<=yr)(h6:yr<=9999)(h7:gm 0 lm=true)(h8:gm 0 um=true)(h9:lm.length<=8)(BB:um.length<=8):iQ ⟨lo,lm,up,um,yr⟩:=by
 refine⟨?_,h9,BB⟩;simp only[k6,h7,h8,decide_eq_true h1,decide_eq_true h2,decide_eq_true h3,decide_eq_true h4,decide_eq_true h5,decide_eq_true h6]
 rfl
theorem iQ.inv{c:a9}(h:iQ c):(1<=c.lo/\c.lo<=99)/\gm 0 c.lm=true/\(1<=c.up/\c.up<=99)/\gm 0 c.um=true/\0<=c.yr/\c.yr<=9999:=by
 have:=h.good;unfold k6 at this;simp only[Bool.and_eq_true,decide_eq_true_eq] at this;obtain⟨⟨⟨a,b⟩,e⟩,⟨⟨c',d⟩,f⟩,p,q⟩:=this;exact⟨⟨a,b⟩,e,⟨c',d⟩,f,p,q⟩
def J6:List (List Int):=[[],[0],[0,1],[1],[0,1,2],[0,1,2,7],[2]]
theorem OQ:∀ms∈J6,gm 0 ms=true/\ms.length<=8:=by decide
theorem Fp{r:Int}(h0:0<=r)(h7:r<7):∃ms,fB (J6.map λms=>D.tup (ms.map .int)) r=some (.tup (ms.map .int))/\gm 0 ms=true/\ms.length<=8:=by
 obtain⟨v,hv,hm⟩:=p8 (l:=J6.map λms=>D.tup (ms.map .int)) h0 (by simpa[J6] using h7);obtain⟨ms,h1,rfl⟩:=aT.mp hm;exact⟨ms,hv,OQ ms h1⟩
section
variable{T:Nat->Option aN}{k d:Nat}{g:G}{Q:KD}{E:KX}
theorem Vv(h4:T 4=some u3)(IP:T 22=some T6)(D0:f6 g d)(h:∀c g',iQ c->f6 g' d->Gr d g g'->Q c.d g'):b9 T (k+2) 22 [.ref d] g Q E:=by
 refine call_of IP rfl ?_;dsimp[T6,d4,List.replicate];have dl:=D0.lt;walk_at"";have D1:=D0.snoc (.lst (J6.map λms=>D.tup (ms.map .int)));have G1:=Gr.snoc d g (.lst (J6.map λms=>D.tup (ms.map .int)));have e1:(g++[O.lst (J6.map λms=>D.tup (ms.map .int))])[g.length]?=some (.lst (J6.map λms=>D.tup (ms.map .int))):=c7;show b9 _ _ _ _ (g++[O.lst (J6.map λms=>D.tup (ms.map .int))]) _ _;generalize g++[O.lst (J6.map λms=>D.tup (ms.map .int))]=g1 at *;refine d0 h4 D1 (by decide) (by decide) λr g2 r0 r1 D2 G2=>?_;walk_at"";have e2:=G2.at (by omega) e1;have hn:∃n:Int,fB [D.int 4,D.int 7] (if decide (r=0)=true then 1 else 0)=some (.int n)/\0<n/\n<=7:=by
  by_cases hr:r=0
  ·exact⟨7,by rw[aM hr];rfl,by decide,by decide⟩
  ·exact⟨4,by rw[aC hr];rfl,by decide,by decide⟩
 obtain⟨n,en,n0,n7⟩:=hn;refine U0 en ?_;walk_at"";refine d0 h4 D2 n0 (by omega) λr3 g3 fq fG D3 G3=>?_;have e3:=G3.at (by omega) e2;obtain⟨lm,el,gl,ll⟩:=Fp fq (by omega);refine n9 (a8 e3) el ?_;walk_at"";refine d0 h4 D3 (by decide) (by decide) λr4 g4 mT nW D4 G4=>?_;have e4:=G4.at (by omega) e3;obtain⟨um,eu,gu,lu⟩:=Fp mT (by omega);refine n9 (a8 e4) eu ?_;walk_at"";have e5:(g4++[O.lst [.int 0,.int 0,.int 1400,.int 1400,.int 1401,.int 1]])[g4.length]?=some (.lst [.int 0,.int 0,.int 1400,.int 1400,.int 1401,.int 1]):=c7;refine d0 h4 (D4.snoc _) (by decide) (by decide) λr5 g5 jG jF D5 G5=>?_;have e6:=G5.at (by have:=D4.lt;omega) e5;obtain⟨v,hv,hm⟩:=p8 (l:=[D.int 0,.int 0,.int 1400,.int 1400,.int 1401,.int 1]) jG (by simpa using jF);have hy:∃y:Int,v=.int y/\0<=y/\y<=9999:=by
  simp only[List.mem_cons,List.mem_nil_iff,or_false] at hm;rcases hm with rfl|rfl|rfl|rfl|rfl|rfl<;>exact⟨_,rfl,by decide,by decide⟩
 obtain⟨y,rfl,y0,y1⟩:=hy;refine n9 (a8 e6) hv ?_;walk_at"";refine d0 h4 D5 (by decide) (by decide) λr6 g6 AL AK D6 G6=>?_;walk_at"";refine d0 h4 D6 (by decide) (by decide) λr7 g7 Hl Hk D7 G7=>?_;walk_at"";exact h ⟨1+r6,lm,1+r7,um,y⟩ _ (iQ.mk' (by omega) (by omega) (by omega) (by omega) y0 y1 gl gu ll lu) D7 (G1.trans (G2.trans (G3.trans (G4.trans ((Gr.snoc _ _ _).trans (G5.trans (G6.trans G7)))))))
def zu(l:List D)(f:Int):Prop:=∃ns:List Int,l=ns.map .int/\∀n∈ns,1<=n/\n<f
theorem Uw(h4:T 4=some u3)(rO:T 23=some B2){a:Nat}{l:List D}{f v:Int}(ha:g[a]?=some (.lst l))(hl:l.length<1000)(hs:zu l f)(f1:1<=f)(hd:d<a)(D0:f6 g d)(h:∀(l':List D) (f':Int) g',l'≠[]->l'.length<=l.length+1->zu l' f'->f<=f'->f'<=f+1->g'[a]?=some (.lst l')->f6 g' d->(∀i,i≠d->i≠a->i<g.length->g'[i]?=g[i]?)->g.length<=g'.length->Q (.int f') g'):b9 T (k+2) 23 [.ref d,.ref a,.int f,.int v] g Q E:=by
 refine call_of rO rfl ?_;have dl:=D0.lt;obtain⟨ns,rfl,ou⟩:=id hs;have app:∀g':G,g'[a]?=some (.lst (ns.map D.int))->f6 g' d->Gr d g g'->wpS (b9 T (k+1)) (.seq (.expr (.dM .append (.var 1) (.cons (.var 2) .nil))) (.seq (.ret (.prim (.bin .Add) (.cons (.var 2) (.cons (.lit (.int 1)) .nil)))) .pass)) ⟨λgh g1=>wpS (b9 T (k+1)) (i0 B2.body) ⟨λ_ g'=>Q .bw g',Q,λ_ _=>False,λ_ _=>False⟩ gh g1 E,Q,λ_ _=>False,λ_ _=>False⟩ [some (.ref d),some (.ref a),some (.int f),some (.int v)] g' E:=by
  intro g' e D1 G1;walk_at"";refine sR e (by simp at hl ⊢;omega) ?_;walk_at"";refine h _ _ _ (by simp) (by simp) ⟨ns++[f],by simp,λn hn=>?_⟩ (by omega) (by omega) (get_set e) (D1.C0 hd) (λi h1 h2 h3=>?_) (by simp[G1.len])
  ·rcases bt.mp hn with z|z
   ·have:=ou n z;omega
   ·simp at z;omega
  ·rw[aB (bR h2)];exact G1.old i h1 h3
 have rest:∀g':G,g'[a]?=some (.lst (ns.map D.int))->ns≠[]->f6 g' d->Gr d g g'->wpS (b9 T (k+1)) (i0 B2.body) ⟨λ_ g'=>Q .bw g',Q,λ_ _=>False,λ_ _=>False⟩ [some (.ref d),some (.ref a),some (.int f),some (.int v)] g' E:=by
  intro g' e dO D1 G1;dsimp[B2,i0];walk_at"";refine d0 h4 D1 (by decide) (by decide) λr g2 r0 r1 D2 G2=>?_;have e2:=G2.at (by omega) e;have hlen:0<ns.length:=Aq.mpr dO;walk_at"";refine if2 (λc=>?_) (λc=>?_)
  ·walk_at"";rw[aj];refine d0 h4 D2 (by omega) (by simp at hl;omega) λr3 g3 fq fG D3 G3=>?_;have e3:=G3.at (by omega) e2;have hj:jT (ns.map D.int).length r3=some r3.toNat:=by
    unfold jT;rw[aG fq,aG (by rw[aj];exact fG)]
   refine N6 e3 hj ?_;walk_at"";refine h _ _ _ (by simp[dO]) (by simp) ⟨ns.set r3.toNat f,by simp,λn hn=>?_⟩ (by omega) (by omega) (get_set e3) (D3.C0 hd) (λi h1 h2 h3=>?_) (by simp[((G1.trans G2).trans G3).len])
   ·rcases mM hn with z|z
    ·have:=ou n z;omega
    ·omega
   ·rw[aB (bR h2)];exact((G1.trans G2).trans G3).old i h1 h3
  ·walk_at"";exact h _ _ _ (by simp[dO]) (by simp) hs (by omega) (by omega) e2 D2 (λi h1 h2 h3=>(G1.trans G2).old i h1 h3) (G1.trans G2).len
 dsimp[B2,d4,List.replicate];walk_at"";refine if2 (λc=>?_) (λc=>?_)
 ·refine kK ?_;exact app g ha D0 (Gr.refl _ _)
 ·have dO:ns≠[]:=λz=>c (by rw[z];rfl);walk_at"";refine if2 (λc2=>?_) (λc2=>?_)
  ·walk_at"";refine d0 h4 D0 (by decide) (by decide) λr g2 r0 r1 D2 G2=>?_;walk_at"";refine if2 (λc3=>?_) (λc3=>?_)
   ·exact app g2 (G2.at (by omega) ha) D2 G2
   ·walk_at "w1";exact rest g2 (G2.at (by omega) ha) dO D2 G2
  ·walk_at "w1";walk_at "w1";exact rest g ha dO D0 (Gr.refl _ _)
end
def B1:aN:=⟨3,17,(.seq (.set 3 (.prim .lst .nil)) (.seq (.set 4 (aH 1)) (.seq (.set 5 (.prim .U5 .nil)) (.seq (.set 6 (cq (.prim .lst (de (aH 0) (aH 1) (aH 1350))) (.call 4 (bQ aw (aH 3))))) (.seq (.set 7 (br (.bin .Add) (aH 1) (.call 4 (bQ aw (aH 96))))) (.seq (.set 8 (br (.bin .Add) (aH 2) (.call 4 (bQ aw (aH 4))))) (.seq (.set 9 (br .max (aH 0) (br (.bin .Sub) (.call 4 (bQ aw (aH 9))) (aH 6)))) (.seq (.set 10 (.prim .lst .nil)) (.seq (.cH (.one 11) (.dN aJ) (.seq (.set 4 (.call 23 (jC aw aV bJ aL))) (.seq (.set 12 (br .tup (cq aV (.call 4 (bQ aw (cj .len aV)))) (br (.bin .Add) (aH 50) (.call 4 (bQ aw (br (.bin .Add) (aH 2) aL)))))) (.seq (.cH (.one 13) (.dY jS) (.seq (.ifs (bZ .Eq (.call 4 (bQ aw gz)) (aH 0)) (.seq (.set 14 (.call 4 (bQ aw (aH 8)))) (.seq (.dz cG qO (cj .tuple (.comp [13,14,5] 5 (.one 4) (.dN (aH 8)) (.jg (bZ .Eq bJ aJ) (bZ .In bJ (.dM .get aL (bQ aw (.prim .tup .nil))))) bJ))) .pass)) .pass) .pass)) (.seq (.ifs (bZ .Eq (.call 4 (bQ aw (aH 5))) (aH 0)) (.seq (.set 6 (br .min (aH 9999) (br (.bin .Add) (br (.bin .Add) df (aH 1)) (.call 4 (bQ aw (aH 9)))))) .pass) .pass) (.seq (.set 15 (.comp [9,7] 4 (.one 3) (.dY jS) .no (br (.bin .Add) (br (.bin .Add) (aH 1) aw) (br (.bin .Mod) (br (.bin .Mult) aV aJ) (aH 97))))) (.seq (.set 16 (br (.bin .Mult) df (cj .int (br (.cmp .Gt) (.call 4 (bQ aw (aH 4))) (aH 0))))) (.seq (.expr (.dM .append mY (cJ (.prim .tup (kW (cq mX (aH 0)) (.dM .get cG (bQ (cq jS (aH 0)) (.prim .tup .nil))) (cq mX (aH 1)) (.dM .get cG (bQ (cq jS (aH 1)) (.prim .tup .nil))) qN))))) .pass)))))))) (.seq (.ret mY) .pass))))))))))⟩
def V5(kvs:List (Key×D)):Prop:=∀k v,u9 kvs k=some v->∃ms:List Int,v=.tup (ms.map .int)/\gm 0 ms=true/\ms.length<=8
theorem Te(kvs:List (Key×D))(k k':Key)(v:D):u9 (putD kvs k v) k'=if k'=k then some v else u9 kvs k':=by
 unfold putD;split
 ·rename_i oz;have go:∀l:List (Key×D),u9 (l.map λkv=>if kv.1=k then(kv.1,v) else kv) k'=if k'=k then(if(l.any λkv=>decide (kv.1=k))=true then some v else none) else u9 l k':=by
   intro l
   induction l with
   |nil=>simp[u9]
   |cons p r ih =>
    obtain⟨pk,pv⟩:=p;by_cases e:pk=k
    ·subst e;by_cases e2:k'=pk
     ·subst e2;simp[u9]
     ·have:¬pk=k':=λz=>e2 z.symm;unfold u9 at ih ⊢;simp[this,e2] at ih ⊢;exact ih
    ·by_cases e2:k'=k
     ·subst e2;unfold u9 at ih ⊢;rw[fK,show decide (pk=k')=false from aC e,Bool.false_or];simp[e] at ih ⊢;exact ih
     ·unfold u9 at ih ⊢;simp only[List.map_cons,e,if_false,List.find?_cons];by_cases e3:pk=k'
      ·simp[e3,e2]
      ·simp[e3];simp[e2] at ih;simp[e2];exact ih
  rw[go,oz]
  rfl
 ·rename_i oz;unfold u9;rw[List.find?_append];by_cases e:k'=k
  ·subst e;have:kvs.find? (λkv=>decide (kv.1=k'))=none:=by
    rw[GF];intro x hx hd;exact oz (eE.mpr ⟨x,hx,hd⟩)
   rw[this];simp
  ·have:¬k=k':=λz=>e z.symm;simp[this,e]
theorem SD(kvs:List (Key×D))(k:Key)(v:D):(putD kvs k v).length<=kvs.length+1:=by
 unfold putD;split<;>simp
theorem V5.put{kvs:List (Key×D)}{k:Key}{ms:List Int}(h:V5 kvs)(h1:gm 0 ms=true)(h2:ms.length<=8):V5 (putD kvs k (.tup (ms.map .int))):=λk' v hv=>by
 rw[Te] at hv;split at hv
 ·cases hv;exact⟨ms,rfl,h1,h2⟩
 ·exact h k' v hv
theorem V5.get{kvs:List (Key×D)}(h:V5 kvs)(k:Key):∃ms:List Int,(u9 kvs k).getD (.tup [])=.tup (ms.map .int)/\gm 0 ms=true/\ms.length<=8:=by
 cases e:u9 kvs k with
 |none=>exact⟨[],rfl,rfl,by simp⟩
 |some v=>obtain⟨ms,rfl,h1,h2⟩:=h k v e;exact⟨ms,rfl,h1,h2⟩
theorem TF(p:Int->Bool):gm 0 (((List.range 8).map λ(n:Nat)=>(n:Int)).filter p)=true/\(((List.range 8).map λ(n:Nat)=>(n:Int)).filter p).length<=8:=by
 refine⟨zy (ia _ (by decide)) λm hm=>?_,aO (tG _ _) (by decide)⟩;have:=(cg.mp hm).1;revert this;revert m;intro m _ hm;simp at hm;obtain⟨a,ha,rfl⟩:=hm;omega
theorem List.X5{α:Type}{l:List α}{i:Nat}{x:α}(h:l[i]?=some x):l.set i x=l:=by
 apply WV;intro j;by_cases e:i=j
 ·subst e;rw[aP (av.mp h).1];exact h.symm
 ·rw[aB e]
section
variable{T:Nat->Option aN}{k d:Nat}{g:G}{Q:KD}{E:KX}
def Di:MS:=match B1.body with
 |.seq _ (.seq _ (.seq _ (.seq _ (.seq _ (.seq _ (.seq _ (.seq _ (.seq (.cH _ _ (.seq _ (.seq _ (.seq (.cH _ _ b) _)))) _))))))))=>b
 |x=>x
theorem Wu(h4:T 4=some u3){w0:Nat}{key wr:Int}{kvs:List (Key×D)}{Z:S}{N:Ends}(hw:g[w0]?=some (.dP kvs))(W:V5 kvs)(hk:kvs.length<1000)(hr:0<wr)(pw:wr<1000)(hd:d<w0)(D0:f6 g d)(s0:Z[0]?=some (some (.ref d)))(s5:Z[5]?=some (some (.ref w0)))(s8:Z[8]?=some (some (.int wr)))(Hf:Z[13]?=some (some (.int key)))(sl:Z.length=17)(h:∀z gS g',g'[w0]?=some (.dP gS)->V5 gS->gS.length<=kvs.length+1->f6 g' d->(∀i,i≠d->i≠w0->i<g.length->g'[i]?=g[i]?)->g.length<=g'.length->N.nx (Z.set 14 z) g'):wpS (b9 T (k+1)) Di N Z g E:=by
 obtain⟨kC,Ju⟩:∃z,Z[14]?=some z:=⟨_,aq (by omega)⟩
 dsimp[Di,B1];refine P7 (Gj (Gm (vh (yB (X0 (w_var s0 (X0 (w_var s8 (zP ?_)))))))));refine d0 h4 D0 hr (by omega) λr g2 r0 r1 D2 G2=>?_;have dl:=D0.lt;walk_at"";refine if2 (λc=>?_) (λc=>?_)
 ·refine zQ (sT (yB (X0 (w_var s0 (X0 (w_lit (zP ?_)))))));refine d0 h4 D2 (by decide) (by decide) λr3 g3 fq fG D3 G3=>?_;have e3:=(G2.trans G3).at (by omega) hw;have t0:(Z.set 14 (some (.int r3)))[0]?=some (some (.ref d)):=by rw[aB (by decide)];exact s0
  have t5:(Z.set 14 (some (.int r3)))[5]?=some (some (.ref w0)):=by rw[aB (by decide)];exact s5
  have AA:(Z.set 14 (some (.int r3)))[13]?=some (some (.int key)):=by rw[aB (by decide)];exact Hf
  have Ha:(Z.set 14 (some (.int r3)))[14]?=some (some (.int r3)):=aP (by omega);obtain⟨ms,em,_,_⟩:=W.get (.inl key);refine P7 (FH (CG ?_));refine Eh (c8 T _) (w_lit ⟨8,rfl,by decide,λi ys bI g'=>g'=g3/\ys.length<=i/\(∃z w,bI=[some (.int key),some (.int r3),some (.ref w0),z,w])/\ys=((((List.range i).map λ(n:Nat)=>(n:Int)).filter λs=>decide (s=r3)||ms.any λm=>m==s).map D.int),⟨rfl,by simp,⟨none,none,?_⟩,rfl⟩,λi ys Z g' p=>p.2.1,λi ys bI g' hi p=>?_,λys bI g' p=>?_⟩)
  ·simp[B9,AA,Ha,t5,List.replicate]
  ·obtain⟨rfl,hl,⟨z,w,rfl⟩,e⟩:=p;have er:(List.range (i+1)).map (λ(n:Nat)=>(n:Int))=(List.range i).map (λ(n:Nat)=>(n:Int))++[(i:Int)]:=by rw[kQ];simp
   have yes:(decide ((i:Int)=r3)||ms.any λm=>m==(i:Int))=true->aR (b9 T (k+1)) (.var 4) [some (.int key),some (.int r3),some (.ref w0),z,some (.int i)] g' (λy g4=>g4=g'/\(ys++[y]).length<=i+1/\(∃z' w',[some (.int key),some (.int r3),some (.ref w0),z,some (D.int i)]=[some (.int key),some (.int r3),some (.ref w0),z',w'])/\(ys++[y])=((((List.range (i+1)).map λ(n:Nat)=>(n:Int)).filter λs=>decide (s=r3)||ms.any λm=>m==s).map D.int)) iP:=λhc=>by
    walk_at"";refine⟨rfl,by simp;omega,⟨_,_,rfl⟩,?_⟩;rw[er,dJ,cx,<- e];simp[hc]
   show cW _ _ _ _ _ _;walk_at"";refine if2 (λc1=>?_) (λc1=>?_)
   ·refine kK ?_;exact yes (by rw[aM c1];rfl)
   ·walk_at"";refine zD e3 (k:=.inl key) rfl ?_;rw[em];walk_at"";refine sA (Dz ?_);walk_at"";cases hc:(ms.any λm=>m==(i:Int)) with
    |true =>
     refine kK ?_;exact yes (by rw[hc];simp)
    |false =>
     refine I9 ?_;refine⟨rfl,by omega,⟨_,_,rfl⟩,?_⟩;rw[er,dJ,cx,<- e];simp[hc,c1]
  ·obtain⟨rfl,hl,_,e⟩:=p;subst e;refine LM (a8 c7) ?_;obtain⟨f1,f2⟩:=TF λs=>decide (s=r3)||ms.any λm=>m==s
   refine w_var t5 (w_var AA ?_);refine Lr (i6 e3) (k:=.inl key) rfl (by omega) ?_;refine h _ _ _ (get_set (i6 e3)) (W.put f1 f2) (SD _ _ _) ((D3.snoc _).C0 hd) (λi h1 h2 h3=>?_) ?_
   ·rw[aB (bR h2),aA (ao h3 (G2.trans G3).len)];exact(G2.trans G3).old i h1 h3
   ·have:=(G2.trans G3).len;simp;omega
 ·refine E0 ?_;have e2:=G2.at (by omega) hw;have:=h kC kvs g2 e2 W (by omega) D2 (λi h1 h2 h3=>G2.old i h1 h3) G2.len
  rwa [List.X5 Ju] at this
end
section
variable{T:Nat->Option aN}{k d:Nat}{g:G}{Q:KD}{E:KX}
def E4:MS:=match B1.body with
 |.seq _ (.seq _ (.seq _ (.seq _ (.seq _ (.seq _ (.seq _ (.seq _ (.seq (.cH _ _ b) _))))))))=>b
 |x=>x
structure gY(d s0 w0 f0 i:Nat)(g:G)(f y:Int):Prop where
 AF:∃l,g[s0]?=some (.lst l)/\zu l f/\l.length<=i
 fr:1<=f/\f<=1+i
 GN:∃kvs,g[w0]?=some (.dP kvs)/\V5 kvs/\kvs.length<=2*i
 found:∃cs:List a9,g[f0]?=some (.lst (cs.map a9.d))/\cs.length=i/\∀c∈cs,iQ c
 year:0<=y/\y<=9999
 dr:f6 g d
theorem QU{s0 w0 f0 i n0:Nat}{n v f y st wr sh:Int}{tI GL GK GJ vA vz:Option D}(h4:T 4=some u3)(rO:T 23=some B2)(S:gY d s0 w0 f0 i g f y)(hi:i<=100)(hv:1<=v/\v<=100)(cR:1<=st/\st<=96)(ip:0<wr/\wr<1000)(iH:0<=sh/\sh<=2)(o1:d<n0)(o2:n0<=s0)(o3:s0<w0)(o4:w0<f0){N:Ends}(h:∀f' y' qm lU kC ql qk g',gY d s0 w0 f0 (i+1) g' f' y'->(∀j,j≠d->j<n0->g'[j]?=g[j]?)->g.length<=g'.length->N.nx [some (.ref d),some (.int n),some (.int v),some (.ref s0),some (.int f'),some (.ref w0),some (.int y'),some (.int st),some (.int wr),some (.int sh),some (.ref f0),tI,qm,lU,kC,ql,qk] g') :
  wpS (b9 T (k+2)) E4 N [some (.ref d),some (.int n),some (.int v),some (.ref s0),some (.int f),some (.ref w0),some (.int y),some (.int st),some (.int wr),some (.int sh),some (.ref f0),tI,GL,GK,GJ,vA,vz] g E:=by
 obtain⟨⟨l,es,hs,hl⟩,⟨f1,f2⟩,⟨kvs,ew,W,hk⟩,⟨cs,ef,hc,hg⟩,⟨y0,y1⟩,D0⟩:=S;have lf:=p9 ef;dsimp[E4,B1];walk_at"";refine Uw h4 rO es (by omega) hs f1 (by omega) D0 λl1 f' g1 dO iK Bi f3 f5 fA D1 my fk=>?_;have BJ:g1[w0]?=some (.dP kvs):=(my w0 (by omega) (by omega) (p9 ew)).trans ew;have BP:g1[f0]?=some (.lst (cs.map a9.d)):=(my f0 (by omega) (by omega) lf).trans ef;walk_at"";have eV:0<l1.length:=Aq.mpr dO;refine d0 (n:=(l1.length:Int)) h4 D1 (by omega) (by omega) λr2 g2 fP fO D2 G2=>?_;have lO:=G2.at (by omega) fA;have BI:=G2.at (by omega) BJ;have BO:=G2.at (by omega) BP;obtain⟨x,hx,hm⟩:=p8 (l:=l1) fP fO;obtain⟨ns,rfl,ou⟩:=id Bi;obtain⟨k1,HX,rfl⟩:=aT.mp hm;refine n9 (a8 lO) hx ?_;walk_at"";refine d0 (n:=2+v) h4 D2 (by omega) (by omega) λr3 g3 fq fG D3 G3=>?_;have xN:=G3.at (by omega) lO;have BH:=G3.at (by omega) BI;have xR:=G3.at (by omega) BO;walk_at"";have kb1:=ou k1 HX;have qy:∀j,j≠d->j<n0->g3[j]?=g[j]?:=λj a b=>by
  have lj:j<g.length:=by omega
  rw[G3.old j a (by have:=G2.len;(clear hi hv cR ip iH o1 hl f1 f2 hk hc y0 y1 f3 f5 fP iK eV fO fq fG kb1 a lj;omega)),G2.old j a (by omega),my j a (by omega) lj]
 have gb:g.length<=g3.length:=by have:=G2.len;have:=G3.len;(clear hi hv cR ip iH o1 o2 o3 o4 hl f1 f2 hk hc y0 y1 lf f3 f5 fP iK eV fO fq fG kb1;omega)
 refine N4 (c8 T _) (Be (c8 T _) ?_);walk_at"";refine ⟨_,rfl,_,λj Z g'=>∃ gS lU kC,Z=[some (.ref d),some (.int n),some (.int v),some (.ref s0),some (.int f'),some (.ref w0),some (.int y),some (.int st),some (.int wr),some (.int sh),some (.ref f0),tI,some (.tup [.int k1,.int (50 + r3)]),lU,kC,vA,vz]/\g'[w0]?=some (.dP gS)/\V5 gS/\gS.length <= 2 * i + j/\f6 g' d/\(∀ j,j ≠ d->j ≠ w0->j < g3.length->g'[j]?=g3[j]?)/\g3.length <= g'.length,
  λ_ _ _ _=>A9,⟨kvs,_,_,rfl,BH,W,by omega,D3,λ_ _ _ _=>rfl,ak _⟩,λj x Z g' hx p=>?_,λZ g' p=>?_⟩
 ·obtain⟨gS,lU,kC,rfl,Jk,W',rq,D',vQ,qL⟩:=p;have jn:∃key:Int,x=.int key/\j<2:=by
   match j,hx with
   |0,hx=>cases hx;exact⟨_,rfl,by decide⟩
   |1,hx=>cases hx;exact⟨_,rfl,by decide⟩
   |j+2,hx=>simp at hx
  obtain⟨key,rfl,hj⟩:=jn;show wpS _ _ _ _ _ _;refine Wu (k:=k+1) h4 Jk W' (by(clear hv cR ip iH o1 o2 o3 o4 hl f1 f2 hk y0 y1 lf f3 f5 fk fP iK eV fO fq fG kb1 gb qL;omega)) ip.1 ip.2 (by omega) D' rfl rfl rfl rfl rfl λz wa XI e2 W2 HW WM og qK=>?_;exact⟨wa,_,_,rfl,e2,W2,by(clear hi hv cR ip iH o1 o2 o3 o4 hl f1 f2 hk y0 y1 lf f3 f5 fk fP iK eV fO fq fG kb1 gb qL hj qK;omega),WM,λj a b c=>(og j a b (by omega)).trans (vQ j a b c),by(clear hi hv cR ip iH o1 o2 o3 o4 hl f1 f2 hk hc y0 y1 lf f3 f5 fk fP iK eV fO fq fG kb1 gb rq hj HW;omega)⟩
 obtain⟨qP,lU,kC,rfl,Jj,W4,jI,D4,mx,gR⟩:=p;have Jn:g'[s0]?=some (.lst (ns.map D.int)):=(mx s0 (by omega) (by omega) (p9 xN)).trans xN;have Jp:g'[f0]?=some (.lst (cs.map a9.d)):=(mx f0 (by omega) (by omega) (p9 xR)).trans xR;have qx:∀j,j≠d->j<n0->g'[j]?=g[j]?:=λj a b=>(mx j a (by omega) (by(clear hi hv cR ip iH o1 hl f1 f2 hk hc y0 y1 f3 f5 fk fP iK eV fO fq fG kb1 jI gR a;omega))).trans (qy j a b);clear mx qy G2 G3 fA BJ BP lO BI BO xN BH xR my;have jI:qP.length<=2*(i+1):=by simp at jI;(clear hi hv cR ip iH o1 o2 o3 o4 hl f1 f2 hk y0 y1 lf f3 f5 fk fP iK eV fO fq fG kb1 gb gR;omega)
 show wpS _ _ _ _ _ _;walk_at"";refine d0 h4 D4 (by decide) (by decide) λr5 g5 jG jF D5 G5=>?_;walk_at"";have tail:∀(y':Int) (g6:G),0<=y'->y'<=9999->f6 g6 d->Gr d g' g6->wpS (b9 T (k+2)) (i0 (i0 (i0 (i0 E4)))) N [some (.ref d),some (.int n),some (.int v),some (.ref s0),some (.int f'),some (.ref w0),some (.int y'),some (.int st),some (.int wr),some (.int sh),some (.ref f0),tI,some (.tup [.int k1,.int (50+r3)]),lU,kC,vA,vz] g6 E:=by
  intro y' g6 kE kD D6 G6;have Jm:=G6.at (by omega) Jn;have Ji:=G6.at (by omega) Jj;have uk:=G6.at (by omega) Jp;dsimp[E4,B1,i0];walk_at"";refine Vt (c8 T _) ?_;walk_at"";refine⟨_,rfl,by simp,λj ys Z g7=>g7=g6/\(∃z w,Z=[some (.int sh),some (.int st),z,w])/\ys=([k1,50+r3].take j).map (λkey=>D.int (1+sh+key*st % 97)),⟨rfl,⟨none,none,rfl⟩,rfl⟩,λj ys Z g7 p=>?_,λj x ys Z g7 hx p=>?_,λys Z g7 p=>?_⟩
  ·obtain⟨rfl,_,rfl⟩:=p;simp;omega
  ·obtain⟨rfl,⟨z,w,rfl⟩,rfl⟩:=p;have jn:∃key:Int,x=.int key/\([k1,50+r3].take j).map (λkey=>D.int (1+sh+key*st % 97))++[D.int (1+sh+key*st % 97)]=([k1,50+r3].take (j+1)).map (λkey=>D.int (1+sh+key*st % 97)):=by
    match j,hx with
    |0,hx=>cases hx;exact⟨_,rfl,rfl⟩
    |1,hx=>cases hx;exact⟨_,rfl,rfl⟩
    |j+2,hx=>simp at hx
   obtain⟨key,rfl,he⟩:=jn;show cW _ _ _ _ _ _;walk_at"";refine L4 (Q9 (by omega) (by omega)) ?_;walk_at"";exact⟨rfl,⟨_,_,rfl⟩,he⟩
  obtain⟨rfl,_,rfl⟩:=p;have eN:(g7++[O.lst [D.int (1+sh+k1*st % 97),D.int (1+sh+(50+r3)*st % 97)]])[g7.length]?=some (.lst [D.int (1+sh+k1*st % 97),D.int (1+sh+(50+r3)*st % 97)]):=c7;show wpS _ _ _ _ (g7++[O.lst [D.int (1+sh+k1*st % 97),D.int (1+sh+(50+r3)*st % 97)]]) _;walk_at"";refine d0 h4 (D6.snoc _) (by decide) (by decide) λr8 g8 kI kH D8 G8=>?_;have l7:=D6.lt;have XT:=G8.at (by omega) eN;have Jl:=G8.at (by omega) (i6 Jm);have xM:=G8.at (by omega) (i6 Ji);have BN:=G8.at (by omega) (i6 uk);walk_at"";refine L4 (yi (by omega) (by omega)) ?_;walk_at"";obtain⟨lm,el,gl,ll⟩:=W4.get (.inl k1);obtain⟨um,eu,gu,lu⟩:=W4.get (.inl (50+r3));refine zD xM (k:=.inl k1) rfl ?_;rw[el];walk_at"";refine zD xM (k:=.inl (50+r3)) rfl ?_;rw[eu];walk_at"";refine sR BN (by simp;omega) ?_;generalize iq:y'*(if decide (0<r8)=true then 1 else 0)=ty;have kj:0<=ty/\ty<=9999:=by
   rw[<- iq];split<;>simp<;>omega
  walk_at"";refine h f' y' _ _ _ _ _ _ ⟨⟨_,C9 Jl (by omega),Bi,by(clear hi hv cR ip iH o1 o2 o3 o4 f1 f2 hk y0 y1 lf f3 f5 fk fP eV fO fq fG kb1 gb gR jI jG jF kE kD kI kH l7 ll lu iq kj;omega)⟩,⟨by omega,by(clear hi hv cR ip iH o1 o2 o3 o4 hl f1 hk y0 y1 lf fk fP iK eV fO fq fG kb1 gb gR jI jG jF kE kD kI kH l7 ll lu iq kj;omega)⟩,⟨qP,C9 xM (by omega),W4,jI⟩,⟨cs++[⟨1+sh+k1*st % 97,lm,1+sh+(50+r3)*st % 97,um,ty⟩],?_,by simp[hc],?_⟩,⟨kE,kD⟩,D8.C0 (by omega)⟩ (λj a b=>?_) ?_
  ·rw[get_set BN];simp[a9.d]
  ·intro c iu;rcases bt.mp iu with z|z
   ·exact hg c z
   ·simp at z;subst z;have m1:=dF (k1*st) (show(97:Int)≠0 by decide);have m2:=cU (k1*st) (show(0:Int)<97 by decide);have m3:=dF ((50+r3)*st) (show(97:Int)≠0 by decide);have m4:=cU ((50+r3)*st) (show(0:Int)<97 by decide);exact iQ.mk' (by(clear hi hv cR ip o1 o2 o3 o4 hl f1 f2 hk hc y0 y1 lf f3 f5 fk fP iK eV fO fq fG kb1 gb gR jI jG jF kE kD kI kH l7 ll lu iq kj m2 m3 m4;omega)) (by(clear hi hv cR ip o1 o2 o3 o4 hl f1 f2 hk hc y0 y1 lf f3 f5 fk fP iK eV fO fq fG kb1 gb gR jI jG jF kE kD kI kH l7 ll lu iq kj m2 m3 m4;omega)) (by(clear hi hv cR ip o1 o2 o3 o4 hl f1 f2 hk hc y0 y1 lf f3 f5 fk fP iK eV fO fq fG kb1 gb gR jI jG jF kE kD kI kH l7 ll lu iq kj m1 m2 m4;omega)) (by(clear hi hv cR ip o1 o2 o3 o4 hl f1 f2 hk hc y0 y1 lf f3 f5 fk fP iK eV fO fq fG kb1 gb gR jI jG jF kE kD kI kH l7 ll lu iq kj m1 m2 m4;omega)) kj.1 kj.2 gl gu ll lu
  ·have lj:j<g'.length:=by(clear hi hv cR ip iH o1 hl f1 f2 hk hc y0 y1 f3 f5 fk fP iK eV fO fq fG kb1 jI jG jF kE kD kI kH l7 ll lu iq kj a;omega)
   rw[aB (by(clear hi hv cR ip iH o1 hl f1 f2 hk hc y0 y1 lf f3 f5 fk fP iK eV fO fq fG kb1 gb gR jI jG jF kE kD kI kH l7 ll lu iq kj a lj;omega)),G8.old j a (by have:=G6.len;simp;(clear hi hv cR ip iH o1 o2 o3 o4 hl f1 f2 hk hc y0 y1 lf f3 f5 fk fP iK eV fO fq fG kb1 gb gR jI jG jF kE kD kI kH l7 ll lu iq kj a b;omega)),aA (by have:=G6.len;(clear hi hv cR ip iH o1 o2 o3 o4 hl f1 f2 hk hc y0 y1 lf f3 f5 fk fP iK eV fO fq fG kb1 gb gR jI jG jF kE kD kI kH l7 ll lu iq kj a b;omega)),G6.old j a lj];exact qx j a b
  ·have:=G6.len;have:=G8.len;simp at this ⊢
   (clear hi hv cR ip iH o1 o2 o3 o4 hl f1 f2 hk hc y0 y1 lf f3 f5 fk fP iK eV fO fq fG kb1 jI jG jF kE kD kI kH l7 ll lu iq kj;omega)
 refine if2 (λc=>?_) (λc=>?_)
 ·walk_at"";refine d0 h4 D5 (by decide) (by decide) λr6 g6 AL AK D6 G6=>?_;walk_at"";generalize wj:(if y+1+r6<9999 then y+1+r6 else 9999)=y';have:0<=y'/\y'<=9999:=by rw[<- wj];split<;>omega
  exact tail y' g6 this.1 this.2 D6 (G5.trans G6)
 ·refine E0 ?_;exact tail y g5 y0 y1 D5 G5
theorem Uz(h4:T 4=some u3)(rO:T 23=some B2)(IM:T 24=some B1){n v:Int}(hn:0<=n/\n<=100)(hv:1<=v/\v<=100)(D0:f6 g d)(h:∀(cs:List a9) a g',(cs.length:Int)=n->(∀c∈cs,iQ c)->g'[a]?=some (.lst (cs.map a9.d))->g.length<=a->f6 g' d->Gr d g g'->Q (.ref a) g'):b9 T (k+3) 24 [.ref d,.int n,.int v] g Q E:=by
 refine call_of IM rfl ?_;dsimp[B1,d4,List.replicate];have dl:=D0.lt;walk_at"";have D1:f6 (g++[O.lst []]++[O.dP []]++[O.lst [.int 0,.int 1,.int 1350]]) d:=((D0.snoc _).snoc _).snoc _;have G1:Gr d g (g++[O.lst []]++[O.dP []]++[O.lst [.int 0,.int 1,.int 1350]]):=((Gr.snoc _ _ _).trans (Gr.snoc _ _ _)).trans (Gr.snoc _ _ _);have e0:(g++[O.lst []]++[O.dP []]++[O.lst [.int 0,.int 1,.int 1350]])[g.length]?=some (.lst []):=i6 (i6 c7);have e1:(g++[O.lst []]++[O.dP []]++[O.lst [.int 0,.int 1,.int 1350]])[(g++[O.lst []]).length]?=some (.dP []):=i6 c7;have e2:(g++[O.lst []]++[O.dP []]++[O.lst [.int 0,.int 1,.int 1350]])[(g++[O.lst []]++[O.dP []]).length]?=some (.lst [.int 0,.int 1,.int 1350]):=c7;have n1:(g++[O.lst []]).length=g.length+1:=by simp
 have n2:(g++[O.lst []]++[O.dP []]).length=g.length+2:=by simp
 rw[n1] at e1 ⊢;rw[n2] at e2 ⊢;generalize g++[O.lst []]++[O.dP []]++[O.lst [.int 0,.int 1,.int 1350]]=g1 at *;refine d0 h4 D1 (by decide) (by decide) λr2 g2 fP fO D2 G2=>?_;have Jy:=G2.at (by omega) e0;have xT:=G2.at (by omega) e1;have Jt:=G2.at (by omega) e2;obtain⟨x,hx,hm⟩:=p8 (l:=[D.int 0,.int 1,.int 1350]) fP (by simpa using fO);have hy:∃y:Int,x=.int y/\0<=y/\y<=9999:=by
  simp only[List.mem_cons,List.mem_nil_iff,or_false] at hm;rcases hm with rfl|rfl|rfl<;>exact⟨_,rfl,by decide,by decide⟩
 obtain⟨y,rfl,y0,y1⟩:=hy;refine n9 (a8 Jt) hx ?_;walk_at"";refine d0 h4 D2 (by decide) (by decide) λr3 g3 fq fG D3 G3=>?_;walk_at"";refine d0 h4 D3 (by decide) (by decide) λr4 g4 mT nW D4 G4=>?_;walk_at"";refine d0 h4 D4 (by decide) (by decide) λr5 g5 jG jF D5 G5=>?_;have vo:=G3.trans (G4.trans G5);have Jx:=vo.at (by omega) Jy;have BS:=vo.at (by omega) xT;have l5:=(G1.trans (G2.trans vo)).len;have lw:=p9 BS;walk_at"";generalize iH:(if r5-6>0 then r5-6 else 0)=sh;have AE:0<=sh/\sh<=2:=by rw[<- iH];split<;>omega
 have Js:(g5++[O.lst []])[g5.length]?=some (.lst []):=c7;refine N4 (c8 T _) (pN (c8 T _) ?_);walk_at"";refine ⟨by omega,by omega,j6 0 n.toNat,λi Z g'=>∃ f' y' vt qm lU kC ql qk,Z=[some (.ref d),some (.int n),some (.int v),some (.ref g.length),some (.int f'),some (.ref (g.length + 1)),some (.int y'),some (.int (1 + r3)),some (.int (2 + r4)),some (.int sh),some (.ref g5.length),vt,qm,lU,kC,ql,qk]/\gY d g.length (g.length + 1) g5.length i g' f' y'/\Gr d g g',
  λ_ _ _ _=>A9,⟨1,y,none,none,none,none,none,none,rfl,⟨⟨[],i6 Jx,⟨[],rfl,by simp⟩,by simp⟩,⟨by omega,by omega⟩,⟨[],i6 BS,(λk v hv=>by cases hv),by simp⟩,⟨[],Js,rfl,by simp⟩,⟨y0,y1⟩,D5.snoc _⟩,(G1.trans (G2.trans vo)).trans (Gr.snoc _ _ _)⟩,λi x Z g' hx p=>?_,λZ g' p=>?_⟩
 ·obtain⟨f',y',vt,qm,lU,kC,ql,qk,rfl,S,G'⟩:=p;obtain⟨hi,rfl⟩:=F7 hx;show wpS _ E4 _ _ _ _;refine QU (n0:=g.length) h4 rO S (by omega) hv ⟨by omega,by omega⟩ ⟨by omega,by omega⟩ AE dl (ak _) (by omega) (by omega) λf2 y2 a b c e f g2 S2 og qK=>?_;exact⟨f2,y2,_,_,_,_,_,_,rfl,S2,⟨by have:=G'.len;(clear hn hv dl fP fO y0 y1 fq fG mT nW jG jF l5 lw iH AE hi;omega),λj h1 h2=>(og j h1 h2).trans (G'.old j h1 h2)⟩⟩
 ·obtain⟨f',y',vt,qm,lU,kC,ql,qk,rfl,S,G'⟩:=p;show wpS _ _ _ _ _ _;walk_at"";obtain⟨cs,ef,hc,hg⟩:=S.found;rw[m7] at hc;exact h cs _ _ (by omega) hg ef (by omega) S.dr G'
end
def va:aN:=⟨2,8,(.seq (.set 2 (br .jk (aH 1) (br (.bin .Add) (br (.bin .Add) (br (.bin .FloorDiv) aJ (aH 2)) (br (.bin .Mod) aJ (aH 2))) (aH 1)))) (.seq (.set 3 (br (.bin .Add) aL (br (.je false true) (.call 21 (bQ aw aL)) (br (.bin .FloorDiv) aJ (aH 2))))) (.seq (.set 4 (.call 4 (bQ aw (aH 3)))) (.seq (.set 5 (.prim .lst .nil)) (.seq (.cH (.one 6) (.dN aJ) (.seq (.set 7 (cq (.prim .lst (de (br (.bin .Add) (aH 1000) df) (aH 0) (br (.bin .Add) (aH 1) (br (.bin .FloorDiv) (br (.bin .Mult) (aH 2) df) (br .max (aH 1) aJ))))) bJ)) (.seq (.expr (.dM .append cG (cJ (.prim .tup (kW (cq aV df) (.prim .tup .nil) (br (.bin .Add) (aH 1) (.call 4 (bQ aw (aH 9)))) (.prim .tup .nil) fe))))) .pass))) (.seq (.ret cG) .pass))))))⟩
def K9:aN:=⟨2,9,(.seq (.set 2 (.call 4 (bQ aw (br (.bin .Add) aJ (aH 1))))) (.seq (.set 3 (br (.bin .Add) (aH 1) (.call 4 (bQ aw (aH 3))))) (.seq (.set 4 (.call 4 (bQ aw (aH 5)))) (.seq (.ifs (bZ .Eq bJ (aH 0)) (.seq (.ret (br .tup (.comp [0] 3 (.one 2) (.dN aL) .no (.call 22 (cJ aw))) aV)) .pass) .pass) (.seq (.ifs (bZ .Eq bJ (aH 4)) (.seq (.set 3 (br (.bin .Add) (aH 1) (.call 4 (bQ aw (aH 6))))) .pass) .pass) (.seq (.set 5 (.ite (bZ .Eq bJ (aH 4)) (.call 25 (bQ aw aL)) (.call 24 (de aw aL aV)))) (.seq (.set 5 (.comp [5] 3 (.one 2) (.dY (.call 21 (bQ aw (cj .ik aL)))) .no (cq aw aL))) (.seq (.ifs (.cB (bZ .Eq bJ (aH 1)) (bZ .Gt aL (aH 0))) (.seq (.set 6 (.call 4 (bQ aw aL))) (.seq (.set 7 (cq cG df)) (.seq (.set 8 (cq cG (.call 4 (bQ aw aL)))) (.seq (.dz cG df (.prim .tup (kW (cq fe (aH 0)) (cq gz (aH 1)) (cq gz (aH 2)) (cq fe (aH 3)) (cq (.prim .lst (de (cq fe (aH 4)) (cq gz (aH 4)) (aH 9999))) (.call 4 (bQ aw (aH 3))))))) .pass)))) .pass) (.seq (.ifs (bZ .Eq bJ (aH 2)) (.seq (.set 3 (aH 1)) .pass) .pass) (.seq (.ret (br .tup cG aV)) .pass))))))))))⟩
theorem Fi{p:Int->Prop}:∀{l:List D},(∀x∈l,∃i:Int,x=.int i/\p i)->∃ns:List Int,l=ns.map .int/\∀i∈ns,p i
 |[],_=>⟨[],rfl,by simp⟩
 |x::r,h=>by
  obtain⟨i,rfl,hi⟩:=h x (by simp);obtain⟨ns,rfl,hn⟩:=Fi (l:=r) λy hy=>h y (by simp[hy]);exact⟨i::ns,rfl,λj hj=>(az.mp hj).elim (λz=>z▸hi) (hn j)⟩
theorem Fz{lo:Int}{n:Nat}{x:D}(h:x∈j6 lo n):∃i:Int,x=.int i/\lo<=i/\i<lo+n:=by
 unfold j6 at h;obtain⟨k,hk,rfl⟩:=aT.mp h;exact⟨_,rfl,by omega,by have:=cv.mp hk;omega⟩
theorem yK{α:Type}{l:List α}{lo hi:Option Int}{x:α}(h:x∈cut l lo hi):x∈l:=by
 unfold cut at h;exact hZ (hX h)
theorem EA{α:Type}{l:List α}{n:Nat}(h:n<=l.length):cut l none (some (n:Int))=l.take n:=by
 have:¬((n:Int)<0):=by omega
 unfold cut HT.cN;simp[this]
theorem Oo{ns:List Int}{r:Int}(h0:0<=r)(h1:r<ns.length):∃i∈ns,fB (ns.map D.int) r=some (.int i):=by
 obtain⟨v,hv,hm⟩:=p8 (l:=ns.map D.int) h0 (by simpa using h1);obtain⟨i,hi,rfl⟩:=aT.mp hm;exact⟨i,hi,hv⟩
theorem V3{cs:List a9}{r:Int}(h0:0<=r)(h1:r<cs.length):∃c∈cs,fB (cs.map a9.d) r=some c.d:=by
 obtain⟨v,hv,hm⟩:=p8 (l:=cs.map a9.d) h0 (by simpa using h1);obtain⟨i,hi,rfl⟩:=aT.mp hm;exact⟨i,hi,hv⟩
section
variable{T:Nat->Option aN}{k d:Nat}{g:G}{Q:KD}{E:KX}
theorem Ug(h4:T 4=some u3)(xf:T 21=some M8)(IL:T 25=some va){n:Int}(hn:0<=n/\n<=100)(D0:f6 g d)(h:∀(cs:List a9) a g',(cs.length:Int)=n->(∀c∈cs,iQ c)->g'[a]?=some (.lst (cs.map a9.d))->g.length<=a->f6 g' d->Gr d g g'->Q (.ref a) g'):b9 T (k+3) 25 [.ref d,.int n] g Q E:=by
 refine call_of IL rfl ?_;dsimp[va,d4,List.replicate];have dl:=D0.lt;walk_at"";refine Hy (i:=1) (j:=n / 2+n % 2+1) (by omega) ?_;walk_at"";have hh:∃hf:Nat,(n / 2+n % 2+1-1).toNat=hf/\(hf:Int)=n / 2+n % 2/\hf<=50:=⟨_,rfl,by omega,by omega⟩
 obtain⟨hf,wG,Xm,Bp⟩:=hh;rw[wG];have e1:(g++[O.lst (j6 1 hf)])[g.length]?=some (.lst (j6 1 hf)):=c7;refine Er h4 xf e1 (by rw[m7];omega) (by omega) (D0.snoc _) λl' b g2 hp e2 hb D2 G2=>?_;have xT:=G2.at (by omega) e1;walk_at"";refine X4 (a8 e2) ?_;have hle:l'.length=hf:=by rw[hp.length_eq,m7]
 have hc:cut l' none (some (n / 2))=l'.take (n / 2).toNat:=by
  have:=EA (l:=l') (n:=(n / 2).toNat) (by omega)
  rwa [show(((n / 2).toNat:Nat):Int)=n / 2 by omega] at this
 rw[hc];refine sN (i6 xT) c7 (by rw[m7,bX];omega) ?_;obtain⟨rl,er,hr⟩:=Fi (p:=λi=>1<=i/\i<=50) (l:=j6 1 hf++l'.take (n / 2).toNat) λx hx=>by
  have qT:x∈j6 1 hf:=by
   rcases bt.mp hx with z|z
   ·exact z
   ·exact hp.mem_iff.mp (hX z)
  obtain⟨i,rfl,h1,h2⟩:=Fz qT;exact⟨i,rfl,h1,by omega⟩
 have Xi:(rl.length:Int)=n:=by
  have:=fT List.length er;rw[bc,m7,bX,aj] at this;omega
 rw[er];have D3:=(D2.snoc (.lst (l'.take (n / 2).toNat))).snoc (.lst (rl.map D.int));have G3:=(Gr.snoc d g (.lst (j6 1 hf))).trans (G2.trans ((Gr.snoc d g2 (.lst (l'.take (n / 2).toNat))).trans (Gr.snoc d _ (.lst (rl.map D.int)))));have e3:(g2++[O.lst (l'.take (n / 2).toNat)]++[O.lst (rl.map D.int)])[(g2++[O.lst (l'.take (n / 2).toNat)]).length]?=some (.lst (rl.map D.int)):=c7;have l3:g.length+1<=(g2++[O.lst (l'.take (n / 2).toNat)]).length:=by have:=G2.len;simp at this ⊢;omega
 generalize (g2++[O.lst (l'.take (n / 2).toNat)]).length=AH at *;generalize g2++[O.lst (l'.take (n / 2).toNat)]++[O.lst (rl.map D.int)]=g3 at *;walk_at"";refine d0 h4 D3 (by decide) (by decide) λr4 g4 mT nW D4 G4=>?_;have e4:=G4.at (by omega) e3;walk_at"";have tu:=G3.trans G4;have l4:=tu.len;have e5:(g4++[O.lst []])[g4.length]?=some (.lst ([].map a9.d)):=c7;have AX:=p9 e4;refine N4 (c8 T _) (pN (c8 T _) ?_);walk_at"";refine ⟨by omega,by omega,j6 0 n.toNat,λi Z g'=>∃ cs z6 z7,Z=[some (.ref d),some (.int n),some (.ref g.length),some (.ref AH),some (.int r4),some (.ref g4.length),z6,z7]/\cs.length=i/\(∀ c ∈ cs,iQ c)/\g'[g4.length]?=some (.lst (cs.map a9.d))/\g'[AH]?=some (.lst (rl.map D.int))/\f6 g' d/\Gr d g g',
  λ_ _ _ _=>A9,⟨[],none,none,rfl,rfl,by simp,e5,i6 e4,D4.snoc _,tu.trans (Gr.snoc _ _ _)⟩,λi x Z g' hx p=>?_,λZ g' p=>?_⟩
 ·obtain⟨cs,z6,z7,rfl,hc,hg,ef,erw,D',G'⟩:=p;obtain⟨hi,rfl⟩:=F7 hx;show wpS _ _ _ _ _ _;walk_at"";refine L4 (yi (by decide) (by decide)) ?_;walk_at"";refine ur ⟨by split<;>omega,by split<;>omega⟩ ?_;walk_at"";obtain⟨yv,hy,wc⟩:∃yv:Int,fB [D.int (1000+(0+(i:Int))),D.int 0,D.int (1+2*(0+(i:Int)) / (if n>1 then n else 1))] r4=some (.int yv)/\0<=yv/\yv<=9999:=by
   have XW:0<=2*(0+(i:Int)) / (if n>1 then n else 1):=Int.ediv_nonneg (by omega) (by split<;>omega);have XU:2*(0+(i:Int)) / (if n>1 then n else 1)<=2*(0+(i:Int)):=Int.ediv_le_self _ (by omega);have:r4=0\/r4=1\/r4=2:=by omega
   rcases this with rfl|rfl|rfl
   ·exact⟨_,rfl,by omega,by(clear dl wG Bp hb l3 l4 AX hc mT nW;omega)⟩
   ·exact⟨_,rfl,by omega,by omega⟩
   ·exact⟨_,rfl,by omega,by omega⟩
  refine n9 (a8 c7) hy ?_;walk_at"";obtain⟨lo,Bl,wB⟩:=Oo (ns:=rl) (r:=0+(i:Int)) (by omega) (by(clear hn dl wG Bp hb l3 mT nW l4 AX wc;omega));have lf:=p9 ef;refine And.intro (yp (i6 ef)) ?_;walk_at"";refine n9 (a8 (i6 erw)) wB ?_;walk_at"";refine d0 h4 (D'.snoc _) (by decide) (by decide) λr6 g6 AL AK D6 G6=>?_;have uk:=G6.at (by omega) (i6 ef);have Jo:=G6.at (by omega) (i6 erw);walk_at"";refine sR uk (by simp;omega) ?_;walk_at"";have Xk:=hr lo Bl;refine⟨cs++[⟨lo,[],1+r6,[],yv⟩],_,_,rfl,by simp[hc],?_,?_,C9 Jo (by omega),D6.C0 (by omega),(G'.trans ((Gr.snoc _ _ _).trans G6)).C0 (by omega)⟩
  ·intro c iu;rcases bt.mp iu with z|z
   ·exact hg c z
   ·simp at z;subst z;exact iQ.mk' (by omega) (by omega) (by omega) (by omega) wc.1 wc.2 rfl rfl (by simp) (by simp)
  ·rw[get_set uk];simp[a9.d]
 ·obtain⟨cs,z6,z7,rfl,hc,hg,ef,erw,D',G'⟩:=p;show wpS _ _ _ _ _ _;walk_at"";rw[m7] at hc;exact h cs _ _ (by omega) hg ef (by omega) D' G'
end
section
variable{T:Nat->Option aN}{k d:Nat}{g:G}{Q:KD}{E:KX}
structure LF(T:Nat->Option aN):Prop where
 pull:T 4=some u3
 order:T 21=some M8
 any:T 22=some T6
 nU:T 23=some B2
 nR:T 24=some B1
 opened:T 25=some va
 list:T 26=some K9
theorem UU(hT:LF T){n:Int}(hn:0<=n/\n<=99)(D0:f6 g d)(h:∀(cs:List a9) a (v:Int) g',(cs.length:Int)<=n->(∀c∈cs,iQ c)->g'[a]?=some (.lst (cs.map a9.d))->g.length<=a->1<=v->v<=6->f6 g' d->Gr d g g'->Q (.tup [.ref a,.int v]) g'):b9 T (k+4) 26 [.ref d,.int n] g Q E:=by
 refine call_of hT.list rfl ?_;dsimp[K9,d4,List.replicate];have dl:=D0.lt;walk_at"";refine d0 (n:=n+1) hT.pull D0 (by omega) (by omega) λm g1 m0 m1 D1 G1=>?_;walk_at"";refine d0 hT.pull D1 (by decide) (by decide) λr2 g2 fP fO D2 G2=>?_;walk_at"";refine d0 hT.pull D2 (by decide) (by decide) λway g3 w0 w1 D3 G3=>?_;have vp:=G1.trans (G2.trans G3);have l3:=vp.len;walk_at"";refine if2 (λc=>?_) (λc=>?_)
 ·walk_at"";refine P8 (c8 T _) (pN (c8 T _) ?_);walk_at"";refine⟨by omega,by omega,j6 0 m.toNat,λi ys Z g'=>∃cs z1 z2,ys=cs.map a9.d/\cs.length=i/\(∀c∈cs,iQ c)/\Z=[some (.ref d),z1,z2]/\f6 g' d/\Gr d g g',by rw[m7];omega,λi ys Z g' p=>⟨A9,?_⟩,⟨[],none,none,rfl,rfl,by simp,rfl,D3,vp⟩,λi x ys Z g' hx p=>?_,λys Z g' p=>?_⟩
  ·obtain⟨cs,z1,z2,rfl,hc,_⟩:=p;simp[hc]
  ·obtain⟨cs,z1,z2,rfl,hc,hg,rfl,D',G'⟩:=p;show cW _ _ _ _ _ _;walk_at"";refine Vv hT.pull hT.any D' λc0 g4 gc D4 G4=>?_;refine⟨cs++[c0],_,_,by simp,by simp[hc],λc1 rF=>?_,rfl,D4,G'.trans G4⟩;rcases bt.mp rF with z|z
   ·exact hg c1 z
   ·simp at z;subst z;exact gc
  ·obtain⟨cs,z1,z2,rfl,hc,hg,rfl,D',G'⟩:=p;rw[m7] at hc;walk_at"";exact h cs _ _ _ (by omega) hg c7 G'.len (by omega) (by omega) (D'.snoc _) (G'.trans (Gr.snoc _ _ _))
 have tail:∀(v:Int) (g4:G),1<=v->v<=6->f6 g4 d->Gr d g g4->wpS (b9 T (k+3)) (i0 (i0 (i0 (i0 (i0 K9.body))))) ⟨λ_ g'=>Q .bw g',Q,λ_ _=>False,λ_ _=>False⟩ [some (.ref d),some (.int n),some (.int m),some (.int v),some (.int way),none,none,none,none] g4 E:=by
  intro v g4 v0 v1 D4 G4;dsimp[K9,i0];have after:∀(cs:List a9) a g5,(cs.length:Int)=m->(∀c∈cs,iQ c)->g5[a]?=some (.lst (cs.map a9.d))->g4.length<=a->f6 g5 d->Gr d g4 g5->wpS (b9 T (k+3)) (i0 (i0 (i0 (i0 (i0 (i0 K9.body)))))) ⟨λ_ g'=>Q .bw g',Q,λ_ _=>False,λ_ _=>False⟩ [some (.ref d),some (.int n),some (.int m),some (.int v),some (.int way),some (.ref a),none,none,none] g5 E:=by
   intro cs a g5 hc hg ea la D5 G5;have Gw:=G4.trans G5;have l4:=G4.len;dsimp[K9,i0];walk_at"";refine P8 (c8 T _) (tU (c8 T _) ?_);walk_at"";refine AY (by omega) (by omega) ?_;walk_at"";have e6:(g5++[O.lst (j6 0 m.toNat)])[g5.length]?=some (.lst (j6 0 m.toNat)):=c7;have l5:=D5.lt;refine Er hT.pull hT.order e6 (by rw[m7];omega) (by omega) (D5.snoc _) λl' b g7 hp eb lb D7 G7=>?_;have Jq:=G7.at (by omega) (i6 ea);have pA:l'.length=m.toNat:=by rw[hp.length_eq,m7]
   refine⟨b,l',rfl,a8 eb,l',λi ys Z g'=>∃gB z1 z2,ys=gB.map a9.d/\gB.length=i/\(∀c∈gB,iQ c)/\Z=[some (.ref a),z1,z2]/\g'=g7,by omega,λi ys Z g' p=>?_,⟨[],none,none,rfl,rfl,by simp,rfl,rfl⟩,λi x ys Z g' hx p=>?_,λys Z g' p=>?_⟩
   ·obtain⟨gB,z1,z2,rfl,iu,_,_,rfl⟩:=p;exact⟨Q7 (a8 eb),by simp[iu]⟩
   ·obtain⟨gB,z1,z2,rfl,iu,mH,rfl,rfl⟩:=p;obtain⟨j,rfl,j0,j1⟩:=Fz (hp.mem_iff.mp (aZ hx));show cW _ _ _ _ _ _;walk_at"";obtain⟨c0,pF,e0⟩:=V3 (cs:=cs) j0 (by omega);refine n9 (a8 Jq) e0 ?_;refine⟨gB++[c0],_,_,by simp,by simp[iu],λc1 rF=>?_,rfl,rfl⟩;rcases bt.mp rF with z|z
    ·exact mH c1 z
    ·simp at z;subst z;exact hg c1 pF
   ·obtain⟨gB,z1,z2,rfl,iu,mH,rfl,rfl⟩:=p;have e8:(g'++[O.lst (gB.map a9.d)])[g'.length]?=some (.lst (gB.map a9.d)):=c7;have D8:=D7.snoc (.lst (gB.map a9.d));have G8:=(Gw.trans ((Gr.snoc d g5 (.lst (j6 0 m.toNat))).trans G7)).trans (Gr.snoc d g' (.lst (gB.map a9.d)));have l8:g.length<=g'.length:=(Gw.trans ((Gr.snoc d g5 (.lst (j6 0 m.toNat))).trans G7)).len;have fin:∀(pJ:List a9) z6 z7 z8 g9,(pJ.length:Int)=m->(∀c∈pJ,iQ c)->g9[g'.length]?=some (.lst (pJ.map a9.d))->f6 g9 d->Gr d g g9->wpS (b9 T (k+3)) (i0 (i0 (i0 (i0 (i0 (i0 (i0 (i0 K9.body)))))))) ⟨λ_ g'=>Q .bw g',Q,λ_ _=>False,λ_ _=>False⟩ [some (.ref d),some (.int n),some (.int m),some (.int v),some (.int way),some (.ref g'.length),z6,z7,z8] g9 E:=by
     intro pJ z6 z7 z8 g9 lJ Bq e9 D9 G9;dsimp[K9,i0];walk_at"";refine if2 (λc=>?_) (λc=>?_)
     ·walk_at"";exact h pJ _ _ _ (by omega) Bq e9 l8 (by omega) (by omega) D9 G9
     ·walk_at"";exact h pJ _ _ _ (by omega) Bq e9 l8 v0 v1 D9 G9
    show wpS _ _ _ _ (g'++[O.lst (gB.map a9.d)]) _;have nh:(gB.length:Int)=m:=by omega
    have tT:=D7.lt;generalize Xo:g'++[O.lst (gB.map a9.d)]=g8 at *;walk_at"";refine if2 (λc1=>?_) (λc1=>?_)
    ·walk_at"";refine if2 (λc2=>?_) (λc2=>?_)
     ·walk_at"";refine d0 (n:=m) hT.pull D8 c2 (by omega) λr g9 r0 r1 D9 G9=>?_;have e9:=G9.at (by omega) e8;obtain⟨c0,pF,e0⟩:=V3 (cs:=gB) r0 (by(clear hn dl m0 m1 fP fO w0 w1 l3 c v0 v1 la l4 l5 lb pA iu l8 tT c1 c2 r0;omega));walk_at"";refine n9 (a8 e9) e0 ?_;walk_at"";refine d0 (n:=m) hT.pull D9 c2 (by omega) λr' Jf pj tR Gx Gv=>?_;have BU:=Gv.at (by omega) e9;obtain⟨c3,Bv,e3⟩:=V3 (cs:=gB) pj (by(clear hn dl m0 m1 fP fO w0 w1 l3 c v0 v1 la l4 l5 lb pA iu l8 tT c1 c2 r0 r1 pj;omega));refine n9 (a8 BU) e3 ?_;dsimp only[a9.d];walk_at"";refine d0 hT.pull (Gx.snoc _) (by decide) (by decide) λHn XJ lh lg WN Ak=>?_;have Ba:=Gx.lt;have Jv:=Ak.at (by omega) (c7 (g:=Jf) (o:=.lst [.int c0.yr,.int c3.yr,.int 9999]));have se:=Ak.at (by omega) (i6 (o':=.lst [.int c0.yr,.int c3.yr,.int 9999]) BU);obtain⟨x,hx,hm⟩:=p8 (l:=[D.int c0.yr,.int c3.yr,.int 9999]) lh (by simpa using lg);obtain⟨a1,a2,a3,a4,a5,a6⟩:=(mH c0 pF).inv;obtain⟨b1,b2,b3,b4,b5,b6⟩:=(mH c3 Bv).inv;have hy:∃y:Int,x=.int y/\0<=y/\y<=9999:=by
       simp only[List.mem_cons,List.mem_nil_iff,or_false] at hm;rcases hm with rfl|rfl|rfl
       ·exact⟨_,rfl,a5,a6⟩
       ·exact⟨_,rfl,b5,b6⟩
       ·exact⟨_,rfl,by decide,by decide⟩
      obtain⟨y,rfl,y0,y1⟩:=hy;refine n9 (a8 Jv) hx ?_;walk_at"";have hj:jT (gB.map a9.d).length r=some r.toNat:=by
       unfold jT;rw[aG r0,aG (by rw[aj];(clear hn dl m0 m1 fP fO w0 w1 l3 c v0 v1 la l4 l5 lb pA iu l8 tT c1 c2 r0 pj tR lh lg Ba a1 a3 a5 a6 b1 b3 b5 b6 y0 y1;omega))]
      refine N6 se hj ?_;have gr:iQ ⟨c0.lo,c3.lm,c3.up,c0.um,y⟩:=iQ.mk' a1.1 a1.2 b3.1 b3.2 y0 y1 b2 a4 (mH c3 Bv).l8 (mH c0 pF).u8;refine fin (gB.set r.toNat ⟨c0.lo,c3.lm,c3.up,c0.um,y⟩) _ _ _ _ (by simp;(clear hn dl m0 m1 fP fO w0 w1 l3 c v0 v1 la l4 l5 lb pA iu l8 tT c1 c2 r0 r1 pj tR lh lg Ba a1 a3 a5 a6 b1 b3 b5 b6 y0 y1;omega)) (λc4 Io=>?_) ?_ (WN.C0 (by omega)) ((G8.trans (G9.trans (Gv.trans ((Gr.snoc _ _ _).trans Ak)))).C0 l8)
      ·rcases mM Io with z|z
       ·exact mH c4 z
       ·rw[z];exact gr
      ·rw[get_set se,List.map_set]
       rfl
     ·refine E0 ?_;exact fin gB _ _ _ _ nh mH e8 D8 G8
    ·exact fin gB _ _ _ _ nh mH e8 D8 G8
  walk_at"";refine if2 (λc=>?_) (λc=>?_)
  ·walk_at"";refine Ug hT.pull hT.order hT.opened ⟨m0,by omega⟩ D4 λcs a g5 hc hg ea la D5 G5=>?_;exact after cs a g5 hc hg ea la D5 G5
  ·walk_at"";refine Uz hT.pull hT.nU hT.nR ⟨m0,by omega⟩ ⟨v0,by omega⟩ D4 λcs a g5 hc hg ea la D5 G5=>?_;exact after cs a g5 hc hg ea la D5 G5
 walk_at"";refine if2 (λc=>?_) (λc=>?_)
 ·walk_at"";refine d0 hT.pull D3 (by decide) (by decide) λr4 g4 mT nW D4 G4=>?_;walk_at "w1";walk_at "w1";exact tail _ _ (by omega) (by omega) D4 (vp.trans G4)
 ·refine E0 ?_;exact tail _ _ (by omega) (by omega) D3 vp
end
def E7:aN:=⟨1,1,(.seq (.ifs (.cO (.dU (.call 1 (de aw (aH 1) (aH 9))))) (.seq (.raise "BadAnvils" (cJ (dg "there are from one to nine anvils"))) .pass) .pass) .pass)⟩
def zC:aN:=⟨2,2,(.seq (.ifs (bZ .Eq (.call 4 (bQ aw (aH 12))) (aH 7)) (.seq (.ret (.call 5 (cJ aw))) .pass) .pass) (.seq (.ret (br (.bin .Sub) (.call 4 (bQ aw (br (.bin .Add) aJ (aH 4)))) (aH 2))) .pass))⟩
def Fn:aN:=⟨2,2,(.seq (.ret (cj .all (.comp [1] 3 (.one 2) (.dY aw) .no (br (.cmp .In) aL aw)))) .pass)⟩
def T4:aN:=⟨1,1,(.seq (.ifs (.cO (.dU (.call 12 (cJ aw)))) (.seq (.raise "BadCoin" (cJ (dg "it is no coin"))) .pass) .pass) .pass)⟩
def O9:aN:=⟨1,2,(.seq (.ifs (bZ .Gt (cj .len aw) (aH 9)) (.seq (.raise "TooMany" (cJ (dg "at most nine coins are asked about at once"))) .pass) .pass) (.seq (.cH (.one 1) (.dY aw) (.seq (.expr (.call 39 (cJ aJ))) .pass)) .pass))⟩
def L0:aN:=⟨1,1,(.seq (.ifs (bZ .NotIn aw (.lit (.tup [(.str "lower"),(.str "upper")]))) (.seq (.raise "BadSide" (cJ (dg "a side is lower or upper"))) .pass) .pass) .pass)⟩
def Y2:aN:=⟨1,1,(.seq (.expr (.call 40 (cJ aw))) (.seq (.ret (br .lN (.lit (.tup [(.tup [(.str "lower"),(.int 0)]),(.tup [(.str "upper"),(.int 2)])])) aw)) .pass))⟩
noncomputable abbrev Gy(T:Nat->Option aN):Prop:=T 18=some O9/\T 39=some T4
noncomputable abbrev Am(T:Nat->Option aN):Prop:=T 19=some Y2/\T 40=some L0
def C8:aN:=⟨2,3,(.seq (.ifs (.cB (bZ .Gt (cj .len aJ) (aH 0)) (bZ .Eq (.call 4 (bQ aw (aH 4))) (aH 0))) (.seq (.set 2 (.call 4 (bQ aw (cj .len aJ)))) (.seq (.set 1 (br (.bin .Add) (br (.bin .Add) (br (.je false true) aJ aL) (cj .lst (.call 14 (bQ aw (cq aJ aL))))) (br (.je true false) aJ (br (.bin .Add) aL (aH 1))))) .pass)) .pass) (.seq (.ifs (.cB (bZ .Gt (cj .len aJ) (aH 0)) (bZ .Eq (.call 4 (bQ aw (aH 8))) (aH 0))) (.seq (.set 1 (br (.je false true) (br (.bin .Mult) aJ (aH 10)) (cq (.prim .lst (de (aH 10) (aH 11) (aH 9))) (.call 4 (bQ aw (aH 3)))))) .pass) .pass) (.seq (.ret aJ) .pass)))⟩
def O0:aN:=⟨1,1,(.seq (.ifs (bZ .Gt (cj .len aw) (aH 9)) (.seq (.ret (dg "TooMany")) .pass) .pass) (.seq (.ifs (.cO (.dU (cj .all (.comp [] 2 (.one 1) (.dY aw) .no (.call 13 (cJ aJ)))))) (.seq (.ret (dg "BadCoin")) .pass) .pass) (.seq (.ret (dg "")) .pass)))⟩
structure Ex(g g':G):Prop where
 len:g.length<=g'.length
 old:∀i,i<g.length->g'[i]?=g[i]?
theorem Ex.refl(g:G):Ex g g:=⟨ak _,λ_ _=>rfl⟩
theorem Ex.trans{g g1 g2:G}(a:Ex g g1)(b:Ex g1 g2):Ex g g2:=⟨aO a.len b.len,λi h=>(b.old i (ao h a.len)).trans (a.old i h)⟩
theorem Ex.snoc(g:G)(o:O):Ex g (g++[o]):=⟨by simp,λi h=>aA h⟩
theorem Ex.at{g g':G}(h:Ex g g'){i:Nat}{o:O}(e:g[i]?=some o):g'[i]?=some o:=(h.old i (p9 e)).trans e
theorem Ex.gr{g g':G}(h:Ex g g')(d:Nat):Gr d g g':=⟨h.len,λi _ h2=>h.old i h2⟩
theorem Ex.draw{g g':G}{d:Nat}(h:Ex g g')(D0:f6 g d):f6 g' d:=by
 obtain⟨s,p,b,r,xs,e1,e2,q⟩:=D0.ex;exact⟨s,p,b,r,xs,h.at e1,h.at e2,q⟩
section
variable{T:Nat->Option aN}{k d:Nat}{g:G}{Q:KD}{E:KX}
end
theorem Ex.Qf{g g':G}(h:Gr g.length g g'):Ex g g':=⟨h.len,λi hi=>h.old i (by omega) hi⟩
section
variable{T:Nat->Option aN}{k d:Nat}{g:G}{Q:KD}{E:KX}
theorem RO{g:G}{x:Str}{kb:Bool->Prop}(hx:PyData.strOk x=true)(h:kb (decide (x="lower")||decide (x="upper"))):mZ g (.str x) (.tup [.str "lower",.str "upper"]) kb:=by
 refine⟨_,.inr ⟨_,[.str "lower",.str "upper"],.str x,rfl,rfl,rfl,by simp only[PyData.canLayAll0,PyData.canLay0,Bool.and_true];decide +kernel,by simp only[PyData.canLay0];exact hx,rfl⟩,?_⟩;have e:∀y:Str,PyData.eqv (.str y) (.str x)=decide (x=y):=λy=>by
  simp only[PyData.eqv];rw[bp,fg,bP];exact eq_comm
 simp only[List.any_cons,List.any_nil,Bool.or_false,e];exact h
theorem Rx(II:T 40=some L0){x:Str}(ho:PyData.strOk x=true)(h1:x="lower"\/x="upper"->Q .bw g)(h3:x≠"lower"->x≠"upper"->E ⟨"BadSide"⟩ g):b9 T (k+1) 40 [.str x] g Q E:=by
 refine call_of II rfl ?_;dsimp[L0,d4,List.replicate];walk_at"";refine uv (RO ho ?_);walk_at"";by_cases e:x="lower"\/x="upper"
 ·refine fH (by rw[Bool.not_eq_false',dG,bP,bP];exact e) ?_;walk_at"";exact h1 e
 ·refine gG (by rw[Bool.not_eq_true',Bool.or_eq_false_iff,dQ,dQ];exact not_or.mp e) ?_;walk_at"";exact h3 (λz=>e (.inl z)) (λz=>e (.inr z))
theorem Y8(nr:Am T){x:Str}(ho:PyData.strOk x=true)(h1:x="lower"->Q (.int 0) g)(h2:x="upper"->Q (.int 2) g)(h3:x≠"lower"->x≠"upper"->E ⟨"BadSide"⟩ g):b9 T (k+2) 19 [.str x] g Q E:=by
 refine call_of nr.1 rfl ?_;dsimp[Y2,d4,List.replicate];walk_at"";refine Rx nr.2 ho (λhx=>?_) h3;walk_at"";by_cases e1:x="lower"
 ·have el:J7 [.tup [.str "lower",.int 0],.tup [.str "upper",.int 2]] x=some (.int 0):=by simp[J7,e1]
  refine FY el ?_;exact h1 e1
 ·have e2:x="upper":=hx.resolve_left e1;have el:J7 [.tup [.str "lower",.int 0],.tup [.str "upper",.int 2]] x=some (.int 2):=by simp[J7,e1];simp[e2]
  refine FY el ?_;exact h2 e2
def CB(c:a9):Prop:=c.lm.length<=8/\c.um.length<=8
theorem RC(h1:NF T)(h2:T 2=some B3)(rS:T 12=some u4)(uf:Gy T){a:Nat}{cs:List a9}(ha:g[a]?=some (.lst (cs.map a9.d)))(hz:cs.length<=1000)(hm:9<cs.length->E ⟨"TooMany"⟩ g)(hb:cs.length<=9->cs.all k6=false->E ⟨"BadCoin"⟩ g)(h:cs.length<=9->cs.all k6=true->Q .bw g):b9 T (k+6) 18 [.ref a] g Q E:=by
 refine call_of uf.1 rfl ?_;dsimp[O9,d4,List.replicate];walk_at"";rw[aj];refine if2 (λc=>?_) (λc=>?_)
 ·walk_at"";exact hm (by omega)
 have h9:cs.length<=9:=by omega
 walk_at"";refine N4 (c8 T _) (tU (c8 T _) ?_);walk_at"";refine⟨a,_,rfl,a8 ha,cs.map a9.d,λi Z g'=>∃z,Z=[some (.ref a),z]/\g'=g/\(cs.take i).all k6=true,λi Z g' p=>?_,⟨none,rfl,rfl,by simp⟩,λi x Z g' hx p=>?_,λZ g' p=>?_⟩
 ·obtain⟨z,rfl,rfl,_⟩:=p;exact Q7 (a8 ha)
 ·obtain⟨z,rfl,rfl,hg⟩:=p;rw[aD,ae] at hx;obtain⟨c,hc,rfl⟩:=hx;refine E3 ?_
  try show wpS _ _ _ _ _ _
  walk_at"";refine call_of uf.2 rfl ?_;dsimp[T4,d4,List.replicate];walk_at"";refine Rf h1 h2 rS ?_;walk_at"";cases e:k6 c with
  |true =>
   walk_at"";refine⟨_,rfl,rfl,?_⟩;rw[hW,hc];simp[hg,e]
  |false =>
   refine Cr ?_;walk_at"";refine hb h9 ?_;rw[WW];exact⟨c,aZ hc,by rw[e];decide⟩
 ·obtain⟨z,rfl,rfl,hg⟩:=p;rw[aj,fV] at hg;exact h h9 hg
def wordOf(cs:List a9):Str:=if 9<cs.length then "TooMany" else if cs.all k6=true then "" else "BadCoin"
theorem Y4(h8:T 8=some G0)(pH:T 13=some C7)(ue:T 28=some O0){a:Nat}{cs:List a9}(ha:g[a]?=some (.lst (cs.map a9.d)))(hz:cs.length<=1000)(h:∀g',Ex g g'->Q (.str (wordOf cs)) g'):b9 T (k+3) 28 [.ref a] g Q E:=by
 refine call_of ue rfl ?_;dsimp[O0,d4,List.replicate];walk_at"";rw[aj];refine if2 (λc=>?_) (λc=>?_)
 ·walk_at"";have:=h g (Ex.refl g);unfold wordOf at this
  rwa [aG (by omega)] at this
 have h9:¬9<cs.length:=by omega
 walk_at"";refine P8 (c8 T _) (tU (c8 T _) ?_);walk_at"";refine⟨a,_,rfl,a8 ha,cs.map a9.d,λi ys Z g'=>∃z w,ys=((cs.take i).map k6).map D.bl/\Z=[z,w]/\Ex g g',by simpa using hz,λi ys Z g' p=>?_,⟨none,none,rfl,rfl,Ex.refl g⟩,λi x ys Z g' hx p=>?_,λys Z g' p=>?_⟩
 ·obtain⟨z,w,rfl,rfl,e⟩:=p;exact⟨Q7 (a8 (e.at ha)),by simp;omega⟩
 ·obtain⟨z,w,rfl,rfl,e⟩:=p;rw[aD,ae] at hx;obtain⟨c,hc,rfl⟩:=hx;show cW _ _ _ _ _ _;walk_at"";refine UO (d:=g'.length) h8 pH λg2 G2 _=>?_;refine⟨_,_,?_,rfl,e.trans (Ex.Qf G2)⟩;rw[hW,hc];simp
 ·obtain⟨z,w,rfl,rfl,e⟩:=p;refine FJ (a8 c7) (Dk _) ?_;have eb:((cs.take (cs.map a9.d).length).map k6).all id=cs.all k6:=by
   rw[aj,fV,List.all_map]
   rfl
  rw[eb];have h':=h _ (e.trans (Ex.snoc _ (.lst (((cs.take (cs.map a9.d).length).map k6).map D.bl))));unfold wordOf at h';rw[aE h9] at h';cases hc:cs.all k6 with
  |true =>
   rw[hc,aG rfl] at h';walk_at"";exact h'
  |false =>
   rw[hc,aE (by decide)] at h';walk_at"";exact h'
end
section
variable{T:Nat->Option aN}{k d:Nat}{g:G}{Q:KD}{E:KX}
theorem Rt(h4:T 4=some u3)(h5:T 5=some Y1)(rQ:T 14=some K0){c:a9}(hB:CB c)(D0:f6 g d)(h:∀(c':a9) g',CB c'->f6 g' d->Gr d g g'->Q c'.d g'):b9 T (k+3) 14 [.ref d,c.d] g Q E:=by
 refine call_of rQ rfl ?_;dsimp[K0,d4,List.replicate,a9.d];walk_at"";refine d0 h4 D0 (by decide) (by decide) λway g1 _ _ D1 G1=>?_;walk_at"";refine d0 h4 (D1.snoc _) (by decide) (by decide) λr g2 r0 r1 D2 G2=>?_;have e2:=G2.at (i:=g1.length) (by have:=D1.lt;omega) (o:=.lst ([[1,0],[3,3],[8],[-1,2],[0,9],[7,10 ^ 20]].map λl=>D.tup (l.map D.int))) (by simp);obtain⟨v,hv,hm⟩:=p8 (l:=[[1,0],[3,3],[8],[-1,2],[0,9],[7,10 ^ 20]].map λl=>D.tup (l.map D.int)) r0 (by simpa using r1);obtain⟨odd,ho,rfl⟩:=aT.mp hm;have rf:odd.length<=8:=by
  simp only[List.mem_cons,List.mem_nil_iff,or_false] at ho;rcases ho with rfl|rfl|rfl|rfl|rfl|rfl<;>decide
 refine n9 (a8 e2) hv ?_;walk_at"";refine uJ h4 h5 D2 λf g3 D3 G3=>?_;walk_at"";refine d0 h4 (D3.snoc _) (by decide) (by decide) λr' g4 pj tR D4 G4=>?_;have e4:=G4.at (i:=g3.length) (by have:=D3.lt;omega) (o:=.lst ([0,100,-1,f].map D.int)) (by simp);obtain⟨v',qU,nh⟩:=p8 (l:=[0,100,-1,f].map D.int) pj (by simpa using tR);obtain⟨num,_,rfl⟩:=aT.mp nh;refine n9 (a8 e4) qU ?_;have G:Gr d g g4:=G1.trans ((Gr.snoc _ _ _).trans (G2.trans (G3.trans ((Gr.snoc _ _ _).trans G4))));walk_at"";refine if2 (λ_=>?_) (λ_=>?_)
 ·walk_at"";exact h ⟨num,c.lm,c.up,c.um,c.yr⟩ g4 hB D4 G
 walk_at"";refine if2 (λ_=>?_) (λ_=>?_)
 ·walk_at"";exact h ⟨c.lo,odd,c.up,c.um,c.yr⟩ g4 ⟨rf,hB.2⟩ D4 G
 walk_at"";refine if2 (λ_=>?_) (λ_=>?_)
 ·walk_at"";exact h ⟨c.lo,c.lm,num,c.um,c.yr⟩ g4 hB D4 G
 walk_at"";refine if2 (λ_=>?_) (λ_=>?_)
 ·walk_at"";exact h ⟨c.lo,c.lm,c.up,odd,c.yr⟩ g4 ⟨hB.1,rf⟩ D4 G
 walk_at"";refine if2 (λ_=>?_) (λ_=>?_)
 ·walk_at"";refine uJ h4 h5 D4 λf' g5 D5 G5=>?_;walk_at"";refine d0 h4 (D5.snoc _) (by decide) (by decide) λHn g6 lh lg D6 G6=>?_;have e6:=G6.at (i:=g5.length) (by have:=D5.lt;omega) (o:=.lst ([-1,10000,9999,f'].map D.int)) (by simp);obtain⟨Xa,wm,wA⟩:=p8 (l:=[-1,10000,9999,f'].map D.int) lh (by simpa using lg);obtain⟨vR,_,rfl⟩:=aT.mp wA;refine n9 (a8 e6) wm ?_;walk_at"";exact h ⟨c.lo,c.lm,c.up,c.um,vR⟩ g6 hB D6 (G.trans (G5.trans ((Gr.snoc _ _ _).trans G6)))
 walk_at"";exact h c g4 hB D4 G
theorem EB{α:Type}{l:List α}{n:Nat}:cut l (some (n:Int)) none=l.drop n:=by
 have:¬((n:Int)<0):=by omega
 unfold cut HT.cN;simp[this];by_cases h:n<=l.length
 ·rw[Nat.min_eq_left h,qc (by simp)]
 ·rw[Nat.min_eq_right (by omega),gw (ak _),gw (by omega)];simp
theorem QX(h4:T 4=some u3)(h5:T 5=some Y1)(rQ:T 14=some K0)(xc:T 27=some C8){a:Nat}{cs:List a9}(ha:g[a]?=some (.lst (cs.map a9.d)))(hB:∀c∈cs,CB c)(hz:cs.length<=9)(hd:d<a)(D0:f6 g d)(h:∀(gB:List a9) b g',(∀c∈gB,CB c)->gB.length<=11->g'[b]?=some (.lst (gB.map a9.d))->(b=a\/g.length<=b)->f6 g' d->Gr d g g'->Q (.ref b) g'):b9 T (k+4) 27 [.ref d,.ref a] g Q E:=by
 refine call_of xc rfl ?_;have dl:=D0.lt;have rest:∀(kM:List a9) b z g1,(∀c∈kM,CB c)->kM.length<=9->g1[b]?=some (.lst (kM.map a9.d))->(b=a\/g.length<=b)->f6 g1 d->Gr d g g1->wpS (b9 T (k+3)) (i0 C8.body) ⟨λ_ g'=>Q .bw g',Q,λ_ _=>False,λ_ _=>False⟩ [some (.ref d),some (.ref b),z] g1 E:=by
  intro kM b z g1 xa oq eb hb D1 G1;have lb:d<b:=by rcases hb with z|z<;>omega
  dsimp[C8,i0];walk_at"";rw[aj];refine if2 (λc=>?_) (λc=>?_)
  ·walk_at"";refine d0 h4 D1 (by decide) (by decide) λr g2 r0 r1 D2 G2=>?_;have BQ:=G2.at (by omega) eb;walk_at"";refine if2 (λc=>?_) (λc=>?_)
   ·walk_at"";refine Kc BQ (by decide) (by decide) (by simp;omega) ?_;walk_at"";have D3:=(D2.snoc (.lst (List.replicate (Int.toNat 10) (kM.map a9.d)).flatten)).snoc (.lst [.int 10,.int 11,.int 9]);refine d0 h4 D3 (by decide) (by decide) λr3 g3 fq fG D4 G4=>?_;have l2:=D2.lt;have e5:=G4.at (by simp;omega) (c7 (g:=g2++[.lst (List.replicate (Int.toNat 10) (kM.map a9.d)).flatten]) (o:=.lst [.int 10,.int 11,.int 9]));have e6:=G4.at (by omega) (i6 (o':=.lst [.int 10,.int 11,.int 9]) (c7 (g:=g2) (o:=.lst (List.replicate (Int.toNat 10) (kM.map a9.d)).flatten)));obtain⟨x,hx,hm⟩:=p8 (l:=[D.int 10,.int 11,.int 9]) fq (by simpa using fG);have hn:∃n:Nat,x=.int n/\n<=11:=by
     simp only[List.mem_cons,List.mem_nil_iff,or_false] at hm;rcases hm with rfl|rfl|rfl
     ·exact⟨10,rfl,by decide⟩
     ·exact⟨11,rfl,by decide⟩
     ·exact⟨9,rfl,by decide⟩
    obtain⟨n,rfl,hn⟩:=hn;refine n9 (a8 e5) hx ?_;walk_at"";refine X4 (a8 e6) ?_;have er:(List.replicate (Int.toNat 10) (kM.map a9.d)).flatten=((List.replicate 10 kM).flatten).map a9.d:=by
     rw[List.map_flatten,List.map_replicate]
     rfl
    rw[er,yJ];have lc:(cut (List.replicate 10 kM).flatten none (some (n:Int))).length<=11:=by
     unfold cut;rw[bX];have:HT.cN (List.replicate 10 kM).flatten.length (List.replicate 10 kM).flatten.length (some (n:Int))<=n:=by
      have h0:¬((n:Int)<0):=by omega
      simp only[HT.cN,h0,if_false];omega
     omega
    walk_at"";refine h _ _ _ (λc hc=>?_) lc c7 (.inr ?_) (D4.snoc _) ((G1.trans (G2.trans ((Gr.snoc _ _ _).trans ((Gr.snoc _ _ _).trans G4)))).trans (Gr.snoc _ _ _))
    ·have:=yK hc;obtain⟨l,hl,hc⟩:=List.mem_flatten.mp this;rw[List.eq_of_mem_replicate hl] at hc;exact xa c hc
    ·exact(G1.trans (G2.trans ((Gr.snoc _ _ _).trans ((Gr.snoc _ _ _).trans G4)))).len
   ·walk_at"";exact h _ _ _ xa (by omega) BQ hb D2 (G1.trans G2)
  ·walk_at"";exact h _ _ _ xa (by omega) eb hb D1 G1
 dsimp[C8,d4,List.replicate];walk_at"";rw[aj];refine if2 (λc=>?_) (λc=>?_)
 ·walk_at"";refine d0 h4 D0 (by decide) (by decide) λr g2 r0 r1 D2 G2=>?_;have BR:=G2.at (by omega) ha;walk_at"";refine if2 (λc=>?_) (λc=>?_)
  ·walk_at"";rw[aj];refine d0 (n:=(cs.length:Int)) h4 D2 (by omega) (by omega) λr3 g3 fq fG D3 G3=>?_;have xS:=G3.at (by omega) BR;walk_at"";refine X4 (a8 xS) ?_;walk_at"";obtain⟨c0,pF,e0⟩:=V3 (cs:=cs) fq fG;refine n9 (a8 (i6 xS)) e0 ?_;walk_at"";refine Rt h4 h5 rQ (hB c0 pF) (D3.snoc _) λc' g4 iu D4 G4=>?_;walk_at"";have l3:=D3.lt;have f1:=G4.at (by omega) (c7 (g:=g3) (o:=.lst (cut (cs.map a9.d) none (some r3))));have Jr:=G4.at (by omega) (i6 (o':=.lst (cut (cs.map a9.d) none (some r3))) xS);rw[yJ] at f1;have Xf:=Fb cs none (some r3);have Xe:=Fb cs (some (r3+1)) none;refine sN (i6 f1) c7 (by simp;omega) ?_;walk_at"";refine ES (a8 (i6 (i6 Jr))) ?_;rw[yJ];refine sN (l:=(cut cs none (some r3)).map a9.d++[c'.d]) (m:=(cut cs (some (r3+1)) none).map a9.d) (i6 c7) c7 (by simp;omega) ?_;have er:List.map a9.d (cut cs none (some r3))++[c'.d]++List.map a9.d (cut cs (some (r3+1)) none)=(cut cs none (some r3)++[c']++cut cs (some (r3+1)) none).map a9.d:=by simp
   rw[er];walk_at "w1";walk_at "w1";have tu:=G2.trans (G3.trans ((Gr.snoc _ _ _).trans G4));have Hm:∃n:Nat,r3=n:=⟨r3.toNat,by omega⟩
   obtain⟨n3,rfl⟩:=Hm;have l9:(cut cs none (some (n3:Int))++[c']++cut cs (some ((n3:Int)+1)) none).length<=9:=by
    rw[EA (by omega),show((n3:Int)+1)=((n3+1:Nat):Int) by omega,EB];simp;omega
   refine rest _ _ _ _ (λc hc=>?_) l9 c7 (.inr ?_) ((((D4.snoc _).snoc _).snoc _).snoc _) (tu.trans ((Gr.snoc _ _ _).trans ((Gr.snoc _ _ _).trans ((Gr.snoc _ _ _).trans (Gr.snoc _ _ _)))))
   ·rcases bt.mp hc with z|z
    ·rcases bt.mp z with z|z
     ·exact hB c (yK z)
     ·simp at z;subst z;exact iu
    ·exact hB c (yK z)
   ·have:=tu.len;simp;omega
  ·refine E0 ?_;exact rest _ _ _ _ hB hz BR (.inl rfl) D2 G2
 ·walk_at "w1";refine E0 ?_;exact rest _ _ _ _ hB hz ha (.inl rfl) D0 (Gr.refl _ _)
end
def B5(f:Int)(c:a9):Int:=if f=0 then c.lo else c.up
theorem R6{f:Int}(hf:f=0\/f=2)(c:a9):fB [D.int c.lo,D.tup (c.lm.map .int),D.int c.up,D.tup (c.um.map .int),D.int c.yr] f=some (.int (B5 f c)):=by
 rcases hf with rfl|rfl<;>rfl
section
variable{T:Nat->Option aN}{k d:Nat}{g:G}{Q:KD}{E:KX}
end
def a9.py(c:a9):PyData:=.tuple [.int c.lo,.tuple (c.lm.map .int),.int c.up,.tuple (c.um.map .int),.int c.yr]
theorem VR{g:G}{n:Nat}(c:a9):rd g (n+2) c.d=some c.py:=by
 unfold a9.d a9.py;simp only[rd,List.mapM_cons,List.mapM_nil,C6]
 rfl
theorem RU(c:a9):c.py.canLay0=true:=by
 unfold a9.py;simp[PyData.canLay0,PyData.canLayAll0,lay_ints]
theorem WI(ms:List Int):PyData.eqvAll (ms.map PyData.int) (ms.map PyData.int)=true:=by rw[P4];simp
theorem WH(c:a9):PyData.eqv c.py c.py=true:=by
 unfold a9.py;simp[PyData.eqv,PyData.eqvAll,WI]
section
variable{T:Nat->Option aN}{k d:Nat}{g:G}{Q:KD}{E:KX}
end
theorem TK{g:G}{a:Nat}{x:Str}{kb:Bool->Prop}(ha:g[a]?=some (.lst [.str "lower",.str "upper"]))(hx:PyData.strOk x=true)(h:kb (decide (x="lower")||decide (x="upper"))):mZ g (.str x) (.ref a) kb:=by
 refine⟨_,.inr ⟨_,[.str "lower",.str "upper"],.str x,a8 ha,rfl,rfl,by simp only[PyData.canLayAll0,PyData.canLay0,Bool.and_true];decide +kernel,by simp only[PyData.canLay0];exact hx,rfl⟩,?_⟩;have e:∀y:Str,PyData.eqv (.str y) (.str x)=decide (x=y):=λy=>by
  simp only[PyData.eqv];rw[bp,fg,bP];exact eq_comm
 simp only[List.any_cons,List.any_nil,Bool.or_false,e];exact h
def cD:a9:=⟨0,[],0,[],0⟩
noncomputable abbrev iX(cs:List a9)(i:Nat):a9:=cs.getD i cD
theorem F1{cs:List a9}{i:Nat}{c:a9}(h:cs[i]?=some c):iX cs i=c:=by simp[iX,List.getD,h]
inductive RW where
 |gf|lower|upper
def RW.s:RW->Str
 |.gf=>"coin"
 |.lower=>"lower"
 |.upper=>"upper"
structure jZ where
 w:RW
 x:Int
 y:Int
def jZ.d(r:jZ):D:=.tup [.str r.w.s,.int r.x,.int r.y]
def meant(cs:List a9)(w:RW)(x:Int)(i:Nat):Bool:=match w with
 |.gf=>decide ((i:Int)=x)
 |.lower=>decide ((iX cs i).lo=x)
 |.upper=>decide ((iX cs i).up=x)
def ju(cs:List a9)(w:RW)(x:Int):List Nat:=(List.range cs.length).filter (meant cs w x)
def uB(l:List Nat):List D:=l.map λ(i:Nat)=>D.int i
def QK:aN:=⟨2,2,(.seq (.ifs (.cO (.dU (.call 1 (de aJ (aH 0) (br (.bin .Sub) (cj .len aw) (aH 1)))))) (.seq (.raise "NoPlace" (cJ (dg "no coin has that place"))) .pass) .pass) .pass)⟩
def N9:aN:=⟨3,4,(.seq (.ifs (.cO (.dU (.call 38 (cJ aL)))) (.seq (.ret (.prim .lst .nil)) .pass) .pass) (.seq (.ifs (bZ .Eq aJ (dg "coin")) (.seq (.ret (.comp [2] 3 (.one 2) (.dN (cj .len aw)) (bZ .Eq aL aw) aL)) .pass) .pass) (.seq (.set 3 (.call 19 (cJ aJ))) (.seq (.ret (.comp [3,2] 5 (.many [3,4]) (.jl aw) (bZ .Eq (cq bJ aw) aJ) aV)) .pass))))⟩
def Fm:aN:=⟨2,3,(.seq (.expr (.call 18 (cJ aw))) (.seq (.set 2 (.call 19 (cJ aJ))) (.seq (.ret (.gn [2] 3 (.one 2) (.dY aw) .no (cq aL aw))) .pass)))⟩
def O1:aN:=⟨2,5,(.seq (.jP (.many [2,3,4]) aJ) (.seq (.ifs (.jg (bZ .NotIn aL (.lit (.tup [(.str "coin"),(.str "lower"),(.str "upper")]))) (bZ .Eq aV bJ)) (.seq (.ret (.lit (.bl false))) .pass) .pass) (.seq (.ret (.cB (br (.cmp .NotEq) (.call 74 (de aw aL aV)) (.prim .lst .nil)) (br (.cmp .NotEq) (.call 74 (de aw aL bJ)) (.prim .lst .nil)))) .pass)))⟩
def O8:aN:=⟨2,4,(.seq (.cH (.many [2,3]) (.jl aJ) (.seq (.ifs (.cO (.dU (.call 88 (bQ aw aV)))) (.seq (.raise "BadRule" (cJ (.prim .kr (de (dg "rule ") (cj .fv aL) (dg " is none for these coins"))))) .pass) .pass) .pass)) .pass)⟩
def CS:aN:=⟨1,1,(.seq (.ret (cj .sum (.comp [] 2 (.one 1) (.dY aw) .no (br (.bin .LShift) (aH 1) aJ)))) .pass)⟩
def DF:aN:=⟨2,2,(.seq (.ret (br (.bin .BitOr) aw (br (.bin .LShift) (aH 1) aJ))) .pass)⟩
def DE:aN:=⟨2,4,(.seq (.cH (.one 2) (.dY (.lit (.tup [(.str "lower"),(.str "upper")]))) (.seq (.set 3 (.call 19 (cJ aL))) (.seq (.ifs (.cB (bZ .Eq (cq aw aV) (cq aJ aV)) (.cO (.dU (.call 15 (bQ (cq aw (br (.bin .Add) aV (aH 1))) (cq aJ (br (.bin .Add) aV (aH 1)))))))) (.seq (.ret (.lit (.bl true))) .pass) .pass) .pass))) (.seq (.ret (.lit (.bl false))) .pass))⟩
def EG:aN:=⟨2,2,(.seq (.ret (.chain .Lt .Lt (aH 0) (cq aJ (aH 4)) (cq aw (aH 4)))) .pass)⟩
def En:aN:=⟨1,1,(.seq (.ret (.comp [0] 3 (.one 2) (.dY aw) .no (.call 90 (cJ (.comp [2] 4 (.many [2,3]) (.jl aw) (.dU (.call 92 (bQ aV aw))) aL))))) .pass)⟩
def X9:aN:=⟨1,1,(.seq (.ret (.comp [0] 3 (.one 2) (.dY aw) .no (.call 90 (cJ (.comp [2] 4 (.many [2,3]) (.jl aw) (.dU (.call 93 (bQ aV aw))) aL))))) .pass)⟩
def DZ:aN:=⟨1,1,(.seq (.ret (.comp [0] 3 (.one 2) (.dY (.call 20 (bQ aw (dg "lower")))) .no (.call 90 (cJ (.call 74 (de aw (dg "lower") aL)))))) .pass)⟩
def W0:aN:=⟨2,8,(.seq (.set 2 (.comp [] 2 (.one 1) (.dY aw) .no (.prim .lst .nil))) (.seq (.cH (.many [3,4,5]) (.dY aJ) (.seq (.set 6 (.call 90 (cJ (.call 74 (de aw aV bJ))))) (.seq (.cH (.one 7) (.dY (.call 74 (de aw aV cG))) (.seq (.ifs (bZ .NotIn df (cq aL fe)) (.seq (.expr (.dM .append (cq aL fe) (cJ df))) .pass) .pass) .pass)) .pass))) (.seq (.ret aL) .pass)))⟩
def P0:aN:=⟨3,3,(.seq (.expr (.call 18 (cJ aw))) (.seq (.expr (.call 42 (cJ aJ))) (.seq (.expr (.call 89 (bQ aw aL))) .pass)))⟩
def Y3:aN:=⟨3,3,(.seq (.expr (.call 98 (de aw aJ aL))) (.seq (.ret (.make "Bounds" 113 (de aw aJ aL))) .pass))⟩
def Ea:aN:=⟨3,5,(.seq (.set 3 (.call 91 (bQ aJ aL))) (.seq (.set 4 (br (.bin .Sub) (cj (.fld "full") aw) aJ)) (.seq (.ret (cj .len (.comp [4,3] 4 (.one 3) (.dY (cj (.fld "lower_dies") aw)) (.cB (.dU (br (.bin .BitAnd) aV aJ)) (.dU (br (.bin .BitAnd) aV aw))) aV))) .pass)))⟩
def Eb:aN:=⟨3,3,(.seq (.ifs (.dU (br (.bin .BitAnd) aJ (cq (cj (.fld "worn_by_place") aw) aL))) (.seq (.ret (dg "wear")) .pass) .pass) (.seq (.ifs (.dU (br (.bin .BitAnd) aJ (cq (cj (.fld "later_by_place") aw) aL))) (.seq (.ret (dg "year")) .pass) .pass) (.seq (.ifs (bZ .Gt (.call 100 (de aw aJ aL)) (cj (.fld "room") aw)) (.seq (.ret (dg "anvil")) .pass) .pass) (.seq (.ifs (.cO (.dU (cj .all (.comp [1] 3 (.one 2) (.dY (cq (cj (.fld "needed_by_place") aw) aL)) .no (br (.bin .BitAnd) aw aL))))) (.seq (.ret (dg "rule")) .pass) .pass) (.seq (.ret (.lit .bw)) .pass)))))⟩
def Em:aN:=⟨4,4,(.seq (.gy "size" ["Bounds"] aw (cj .len aJ)) (.seq (.gy "full" ["Bounds"] aw (br (.bin .Sub) (br (.bin .LShift) (aH 1) (cj .len aJ)) (aH 1))) (.seq (.gy "room" ["Bounds"] aw aL) (.seq (.gy "worn_by_place" ["Bounds"] aw (.call 94 (cJ aJ))) (.seq (.gy "later_by_place" ["Bounds"] aw (.call 95 (cJ aJ))) (.seq (.gy "lower_dies" ["Bounds"] aw (.call 96 (cJ aJ))) (.seq (.gy "needed_by_place" ["Bounds"] aw (.call 97 (bQ aJ aV))) .pass)))))))⟩
section
variable{P:eG}{Z:S}{g:G}{Q:KD}{E:KX}{t:MT}{it c elt:ME}{d6:List Nat}{n:Nat}
theorem Y9(hP:i5 P)(Sh:S->Prop)(p:Nat->Bool)(w:Nat->D){l:List D}{k:IK}(hk:∀g',Ex g g'->k.Is l g')(hl:l.length<=1000)(h0:Sh (B9 Z d6 n))(hs:∀i d Z g',l[i]?=some d->Ex g g'->Sh Z->iV t d Z λbY=>cW P c bY g' (λb g3=>b=p i/\Ex g g3/\if b=true then aR P elt bY g3 (λy g4=>y=w i/\Ex g g4/\Sh bY) iP else Sh bY) iP)(hd:∀g',Ex g g'->Q (.ref g'.length) (g'++[.lst (((List.range l.length).filter p).map w)]))(hi:∀R:IK->G->Prop,R k g->fX P it Z g R E):aR P (.comp d6 n t it c elt) Z g Q E:=by
 refine P8 hP (hi _ ?_);refine⟨l,λi ys Z g'=>Ex g g'/\ys=((List.range i).filter p).map w/\Sh Z,hl,λi ys Z g' q=>⟨hk _ q.1,?_⟩,⟨Ex.refl _,rfl,h0⟩,λi x ys Z g' hx q=>?_,λys Z g' q=>?_⟩
 ·obtain⟨_,rfl,_⟩:=q;rw[aj];exact aO (tG _ _) (by simp)
 ·obtain⟨e1,rfl,sh⟩:=q;refine u7 (λbY q=>n4 hP c _ _ _ _ _ _ (λb g3 q=>?_) (λ_ _ z=>z) q) (hs i x Z g' hx e1 sh);obtain⟨rfl,e3,q⟩:=q;have ef:((List.range (i+1)).filter p).map w=((List.range i).filter p).map w++if p i=true then[w i] else[]:=by
   rw[kQ,dJ,cx]
   congr 1
   cases z:p i<;>simp only[List.filter_cons,z,List.filter_nil]<;>rfl
  cases hp:p i with
  |true =>
   rw[hp] at q ef;rw[aG rfl] at q ⊢;refine b0 hP elt _ _ _ _ _ _ (λy g4 q=>?_) (λ_ _ z=>z) q;obtain⟨rfl,e4,sh⟩:=q;exact⟨e4,by rw[ef];rfl,sh⟩
  |false =>
   rw[hp] at q ef;rw[aE (by decide)] at q ⊢;exact⟨e3,by rw[ef];simp,q⟩
 ·obtain⟨e1,rfl,sh⟩:=q;exact hd g' e1
theorem comp_map(hP:i5 P)(Sh:S->Prop)(w:Nat->D){l:List D}{k:IK}(hk:∀g',Ex g g'->k.Is l g')(hl:l.length<=1000)(h0:Sh (B9 Z d6 n))(hs:∀i d Z g',l[i]?=some d->Ex g g'->Sh Z->iV t d Z λbY=>aR P elt bY g' (λy g4=>y=w i/\Ex g g4/\Sh bY) iP)(hd:∀g',Ex g g'->Q (.ref g'.length) (g'++[.lst ((List.range l.length).map w)]))(hi:∀R:IK->G->Prop,R k g->fX P it Z g R E):aR P (.comp d6 n t it .no elt) Z g Q E:=by
 refine Y9 hP Sh (λ_=>true) w hk hl h0 (λi d Z g' hx e sh=>u7 (λbY q=>Gk ⟨rfl,e,?_⟩) (hs i d Z g' hx e sh)) (λg' e=>?_) hi
 ·exact kK q
 ·have:=hd g' e
  rwa [show(List.range l.length).filter (λ_=>true)=List.range l.length from List.filter_eq_self.mpr λ_ _=>rfl]
theorem zk(hP:i5 P){a:Nat}{l:List D}{o:ME}(hl:d5 g a=some l)(h:∀Q:KD,Q (.ref a) g->aR P o Z g Q E):∀R:IK->G->Prop,R (.lst a) g->fX P (.dY o) Z g R E:=λR r=>tU hP (h _ ⟨a,l,rfl,hl,r⟩)
theorem PJ{a:Nat}{l:List D}{o:ME}(hl:d5 g a=some l)(h:∀Q:KD,Q (.ref a) g->aR P o Z g Q E):∀R:IK->G->Prop,R (.oK a) g->fX P (.jl o) Z g R E:=λR r=>wb (h _ ⟨a,l,rfl,hl,r⟩)
theorem PK(hP:i5 P){j:Nat}{o:ME}(hj:j<=1000)(h:∀Q:KD,Q (.int (j:Nat)) g->aR P o Z g Q E):∀R:IK->G->Prop,R (.fix (j6 0 j)) g->fX P (.dN o) Z g R E:=λR r=>pN hP (h _ ⟨j,rfl,by omega,by omega,by simpa using r⟩)
end
theorem RQ(l:List Nat):uB l=(l.map λ(i:Nat)=>(i:Int)).map D.int:=by simp[uB]
structure sW(T:Nat->Option aN):Prop where
 nf:NF T
 h2:T 2=some B3
 rS:T 12=some u4
 uf:Gy T
 nr:Am T
 ug:T 15=some Fn
 XG:T 20=some Fm
 uc:T 74=some N9
 BA:T 88=some O1
 IH:T 89=some O8
 XD:T 90=some CS
 XC:T 91=some DF
 XB:T 92=some DE
 XA:T 93=some EG
 Xz:T 94=some En
 Xy:T 95=some X9
 Xx:T 96=some DZ
 Xw:T 97=some W0
 IU:T 100=some Ea
 IT:T 101=some Eb
 IQ:T 113=some Em
section
variable{T:Nat->Option aN}{k d:Nat}{g g':G}{Q:KD}{E:KX}{a p:Nat}{cs:List a9}
theorem RI(h1:NF T)(xb:T 42=some E7){i:Int}(h:1<=i->i<=9->Q .bw g)(hn:¬(1<=i/\i<=9)->E ⟨"BadAnvils"⟩ g):b9 T (k+3) 42 [.int i] g Q E:=by
 refine call_of xb rfl ?_;dsimp[E7,d4,List.replicate];walk_at"";refine v7 (k:=k) h1 ?_;walk_at"";by_cases hi:1<=i/\i<=9
 ·rw[aM hi.1,aM hi.2];walk_at"";exact h hi.1 hi.2
 ·have:(decide (1<=i)&&decide (i<=9))=false:=by
   rw[Bool.and_eq_false_iff,dQ,dQ];omega
  rw[this];walk_at"";exact hn hi
theorem DK(h1:NF T)(nr:Am T)(uc:T 74=some N9){w:RW}{x:Int}(ha:g[a]?=some (.lst (cs.map a9.d)))(hz:cs.length<=1000)(h:∀g' b,Ex g g'->g.length<=b->g'[b]?=some (.lst (uB (ju cs w x)))->Q (.ref b) g'):b9 T (k+3) 74 [.ref a,.str w.s,.int x] g Q E:=by
 refine call_of uc rfl ?_;dsimp[N9,d4,List.replicate];walk_at"";refine Y6 (k:=k+1) h1 ?_;walk_at"";have fld:∀f:Int,(f=0\/f=2)->(∀i c,cs[i]?=some c->meant cs w x i=decide (B5 f c=x))->aR (b9 T (k+2)) (.comp [3,2] 5 (.many [3,4]) (.jl (.var 0)) (.dU (.prim (.cmp .Eq) (.cons (.prim .ix (.cons (.var 4) (.cons (.var 0) .nil))) (.cons (.var 1) .nil)))) (.var 3)) [some (.ref a),some (.str w.s),some (.int x),some (.int f)] g Q E:=λf hf hm=>by
  refine Y9 (c8 T _) (λZ=>∃z2 z3 z4,Z=[some (.int f),some (.int x),z2,z3,z4]) (meant cs w x) (λi=>.int (i:Nat)) (l:=nC (cs.map a9.d)) (λg' e=>EF (a8 (e.at ha))) (by rw[yM];simpa using hz) ⟨none,none,none,rfl⟩ (λi d Z g' hx e sh=>?_) (λg' e=>?_) (PJ (a8 ha) λQ q=>w_var (d:=.ref a) rfl q)
  ·obtain⟨z2,z3,z4,rfl⟩:=sh;obtain⟨dd,hd,rfl⟩:=Fd hx;rw[aD,ae] at hd;obtain⟨c,hc,rfl⟩:=hd;refine C4 rfl ?_
   try show cW _ _ _ _ _ _
   walk_at"";refine U0 (R6 hf c) ?_;walk_at"";rw[hm i c hc];refine⟨rfl,e,?_⟩;refine if2 (λ_=>?_) (λ_=>?_)
   ·walk_at"";exact⟨rfl,e,_,_,_,rfl⟩
   ·exact⟨_,_,_,rfl⟩
  ·rw[yM,aj];exact h _ _ (e.trans (Ex.snoc _ _)) e.len c7
 cases w with
 |gf =>
  refine gG (by decide +kernel) ?_;walk_at"";refine Y9 (c8 T _) (λZ=>∃z1 z2,Z=[some (.int x),z1,z2]) (meant cs .gf x) (λi=>.int (i:Nat)) (l:=j6 0 cs.length) (λg' e=>A9) (by rw[m7];exact hz) ⟨none,none,rfl⟩ (λi d Z g' hx e sh=>?_) (λg' e=>?_) (PK (c8 T _) hz λQ q=>?_)
  ·obtain⟨z2,z3,rfl⟩:=sh;obtain⟨hi,rfl⟩:=F7 hx;rw[Int.zero_add];refine E3 ?_
   try show cW _ _ _ _ _ _
   walk_at"";refine⟨rfl,e,?_⟩;refine if2 (λ_=>?_) (λ_=>?_)
   ·walk_at"";exact⟨rfl,e,_,_,rfl⟩
   ·exact⟨_,_,rfl⟩
  ·rw[m7];exact h _ _ (e.trans (Ex.snoc _ _)) e.len c7
  ·walk_at"";rw[aj];exact q
 |lower =>
  refine fH (by decide +kernel) ?_;walk_at"";refine Y8 (k:=k) nr (by decide +kernel) (λ_=>?_) (λz=>absurd z (by decide +kernel)) (λz=>absurd rfl z);walk_at"";exact fld 0 (.inl rfl) λi c hc=>by simp only[meant,F1 hc];rfl
 |upper =>
  refine fH (by decide +kernel) ?_;walk_at"";refine Y8 (k:=k) nr (by decide +kernel) (λz=>absurd z (by decide +kernel)) (λ_=>?_) (λ_ z=>absurd rfl z);walk_at"";exact fld 2 (.inr rfl) λi c hc=>by simp only[meant,F1 hc];rfl
end
section
variable{T:Nat->Option aN}{k d:Nat}{g g':G}{Q:KD}{E:KX}{a p:Nat}{cs:List a9}
end
theorem Dy{g:G}{a:Nat}{ms:List Int}{i:Int}{k:Bool->Prop}(ha:d5 g a=some (ms.map .int))(h:k (ms.any λm=>m==i)):mZ g (.int i) (.ref a) k:=by
 refine⟨_,.inr ⟨_,_,_,ha,C6 ms,rfl,lay_ints ms,by simp[PyData.canLay0],rfl⟩,?_⟩;rw[qg];exact h
def vg(rs:List jZ):List D:=rs.map jZ.d
section
variable{T:Nat->Option aN}{k d:Nat}{g g':G}{Q:KD}{E:KX}{a c p:Nat}{cs:List a9}{rs:List jZ}
end
def u5(cs:List a9)(r:jZ):Bool:=!decide (r.x=r.y)&&(!(ju cs r.w r.x).isEmpty&&!(ju cs r.w r.y).isEmpty)
theorem in_words{g:G}{w:RW}{kb:Bool->Prop}(h:kb true):mZ g (.str w.s) (.tup [.str "coin",.str "lower",.str "upper"]) kb:=by
 refine⟨_,.inr ⟨_,[.str "coin",.str "lower",.str "upper"],.str w.s,rfl,rfl,rfl,by simp only[PyData.canLayAll0,PyData.canLay0,Bool.and_true];decide +kernel,by simp only[PyData.canLay0];cases w<;>decide +kernel,rfl⟩,?_⟩;have:([PyData.str "coin",PyData.str "lower",PyData.str "upper"].any λq=>PyData.eqv q (.str w.s))=true:=by
  simp only[List.any_cons,List.any_nil,PyData.eqv];cases w<;>decide +kernel
 rw[this];exact h
theorem ne_nil{g:G}{a b:Nat}{l:List Nat}{Q:KD}(ha:g[a]?=some (.lst (uB l)))(hb:g[b]?=some (.lst []))(h:Q (.bl (!l.isEmpty)) g):cF (.cmp .NotEq) [.ref a,.ref b] g Q:=by
 refine Aa (Dt (ms:=l.map λ(i:Nat)=>(i:Int)) (ns:=[]) (by rw[<- RQ];exact a8 ha) (a8 hb) ?_);have:decide ((l.map λ(i:Nat)=>(i:Int))=[])=l.isEmpty:=by cases l<;>simp
 rw[this];exact h
section
variable{T:Nat->Option aN}{k d:Nat}{g g':G}{Q:KD}{E:KX}{a b c:Nat}{cs:List a9}{rs:List jZ}{v:Int}
theorem Rh(hT:sW T){r:jZ}(ha:g[a]?=some (.lst (cs.map a9.d)))(hz:cs.length<=1000)(h:∀g',Ex g g'->Q (.bl (u5 cs r)) g'):b9 T (k+4) 88 [.ref a,r.d] g Q E:=by
 refine call_of hT.BA rfl ?_;dsimp[O1,d4,List.replicate];walk_at"";refine C4 (l:=[.str r.w.s,.int r.x,.int r.y]) rfl ?_;walk_at"";refine uv (in_words ?_);walk_at"";refine if2 (λh1=>?_) (λh1=>?_)
 ·walk_at"";have:u5 cs r=false:=by unfold u5;rw[aM h1];rfl
  rw[<- this];exact h _ (Ex.refl _)
 ·walk_at"";refine DK (k:=k) hT.nf hT.nr hT.uc ha hz λg1 b1 e1 _ Iu=>?_;walk_at"";refine ne_nil ((Ex.snoc _ _).at Iu) c7 ?_;walk_at"";cases h2:(ju cs r.w r.x).isEmpty with
  |true =>
   refine fH rfl ?_;have:u5 cs r=false:=by unfold u5;rw[aC h1,h2];rfl
   rw[<- this];exact h _ (e1.trans (Ex.snoc _ _))
  |false =>
   refine gG rfl ?_;walk_at"";refine DK (k:=k) hT.nf hT.nr hT.uc ((e1.trans (Ex.snoc _ _)).at ha) hz λg2 b2 e2 _ wO=>?_;walk_at"";refine ne_nil ((Ex.snoc _ _).at wO) c7 ?_;have:u5 cs r=!(ju cs r.w r.y).isEmpty:=by unfold u5;rw[aC h1,h2];rfl
   rw[<- this];exact h _ ((e1.trans (Ex.snoc _ _)).trans (e2.trans (Ex.snoc _ _)))
end
section
variable{T:Nat->Option aN}{k d:Nat}{g g':G}{Q:KD}{E:KX}{a b c:Nat}{cs:List a9}{rs:List jZ}{v:Int}
end
def pX:aN:=⟨2,5,(.seq (.set 2 (cq (.prim .lst (jC (dg "coin") (dg "coin") (dg "lower") (dg "upper"))) (.call 4 (bQ aw (aH 4))))) (.seq (.set 3 (cj .ik (cj .len aJ))) (.seq (.ifs (bZ .Eq aL (dg "lower")) (.seq (.set 3 (cj .sset (.comp [] 2 (.one 1) (.dY aJ) .no (cq aJ (aH 0))))) .pass) .pass) (.seq (.ifs (bZ .Eq aL (dg "upper")) (.seq (.set 3 (cj .sset (.comp [] 2 (.one 1) (.dY aJ) .no (cq aJ (aH 2))))) .pass) .pass) (.seq (.ifs (bZ .Lt (cj .len aV) (aH 2)) (.seq (.ret (.lit .bw)) .pass) .pass) (.seq (.set 4 (.call 4 (bQ aw (cj .len aV)))) (.seq (.ret (.prim .tup (de aL (cq aV bJ) (cq aV (br (.bin .Mod) (br (.bin .Add) (br (.bin .Add) bJ (aH 1)) (.call 4 (bQ aw (br (.bin .Sub) (cj .len aV) (aH 1))))) (cj .len aV)))))) .pass)))))))⟩
def ym:aN:=⟨2,5,(.seq (.set 2 (.prim .lst .nil)) (.seq (.cH (.one 3) (.dN (cq (.prim .lst (oG (aH 0) (aH 0) (aH 1) (aH 1) (aH 2) (aH 4))) (.call 4 (bQ aw (aH 6))))) (.seq (.set 4 (.call 105 (bQ aw aJ))) (.seq (.ifs (bZ .IsNot bJ (.lit .bw)) (.seq (.expr (.dM .append aL (cJ bJ))) .pass) .pass) .pass))) (.seq (.ret aL) .pass)))⟩
structure vk(T:Nat->Option aN):Prop where
 lf:LF T
 xD:T 105=some pX
 xC:T 106=some ym
theorem yt{cs:List a9}{w:RW}{x:Int}{i:Nat}(hi:i<cs.length)(h:meant cs w x i=true):(ju cs w x).isEmpty=false:=by
 cases e:ju cs w x with
 |nil =>
  have:i∈ju cs w x:=cg.mpr ⟨cv.mpr hi,h⟩;rw[e] at this;cases this
 |cons _ _=>rfl
section
variable{T:Nat->Option aN}{k d:Nat}{g g':G}{Q:KD}{E:KX}{a b c:Nat}{cs:List a9}{rs:List jZ}{v:Int}
theorem TZ{ns:List Int}{x:Int}:x∈A6 ns↔x∈ns:=by
 rw[(K6 ns).mem_iff,ST.Ec];simp
theorem Sb(ns:List Int):(A6 ns).Nodup:=(K6 ns).nodup_iff.mpr (ST.DH _ _ (by simp))
theorem DL(hT:vk T)(D0:f6 g d){w:RW}{L:List Int}{sL:Nat}{N:Ends}(hN:N.rt=Q)(hL:g[sL]?=some (.lst (L.map .int)))(hd:sL≠d)(nd:L.Nodup)(hl:L.length<=9)(hm:∀x∈L,(ju cs w x).isEmpty=false)(h:∀g',f6 g' d->Gr d g g'->Q .bw g'/\∀r,u5 cs r=true->Q r.d g'):wpS (b9 T (k+1)) (match pX.body with|.seq _ (.seq _ (.seq _ (.seq _ b)))=>b|x=>x) N [some (.ref d),some (.ref a),some (.str w.s),some (.ref sL),none] g E:=by
 subst hN;dsimp[pX];walk_at"";refine if2 (λh2=>?_) (λh2=>?_)
 ·walk_at"";exact(h g D0 (Gr.refl _ _)).1
 rw[aj] at h2;walk_at"";refine d0 (k:=k) hT.lf.pull D0 (by rw[aj];omega) (by rw[aj];omega) λr1 g1 h0 h1 D1 G1=>?_;rw[aj] at h1;walk_at"";obtain⟨j,rfl⟩:∃j:Nat,r1=j:=⟨r1.toNat,by omega⟩
 have hj:j<L.length:=by omega
 have gj:fB (L.map D.int) (j:Int)=some (.int L[j]):=R7 (by rw[aD,aq hj];rfl);refine n9 (a8 (G1.at hd hL)) gj ?_;walk_at"";refine L1 (a8 (G1.at hd hL)) ?_;walk_at"";refine d0 (k:=k) hT.lf.pull D1 (by rw[aj];omega) (by rw[aj];omega) λr2 g2 k0 k1 D2 G2=>?_;rw[aj] at k1;walk_at"";have oB:=(G1.trans G2).at hd hL;refine L1 (a8 oB) ?_;walk_at"";refine L5 (by rw[aj];omega) ?_;obtain⟨j2,rfl⟩:∃j:Nat,r2=j:=⟨r2.toNat,by omega⟩
 have em:((j:Int)+1+(j2:Nat)) % ((L.map D.int).length:Nat)=(((j+1+j2) % L.length:Nat):Int):=by rw[aj,Int.natCast_emod,show((j+1+j2:Nat):Int)=(j:Int)+1+(j2:Nat) by omega]
 rw[em];have Bn:(j+1+j2) % L.length<L.length:=GC _ (by omega);have dO:(j+1+j2) % L.length≠j:=by
  by_cases hc:j+1+j2<L.length
  ·rw[kc hc];omega
  ·rw[Nat.mod_eq_sub_mod (by omega),kc (by omega)];omega
 generalize (j+1+j2) % L.length=j3 at *;have Jb:fB (L.map D.int) (j3:Int)=some (.int L[j3]):=R7 (by rw[aD,aq Bn];rfl);refine n9 (a8 oB) Jb ?_;walk_at"";refine(h g2 D2 (G1.trans G2)).2 ⟨w,L[j],L[j3]⟩ ?_;unfold u5;rw[hm _ (cL hj),hm _ (cL Bn),aC (λz=>dO ((Yb nd).mp z).symm)]
 rfl
theorem VS(hT:vk T)(ha:g[a]?=some (.lst (cs.map a9.d)))(hz:cs.length<=9)(hd:d<a)(D0:f6 g d)(h:∀g',f6 g' d->Gr d g g'->Q .bw g'/\∀r,u5 cs r=true->Q r.d g'):b9 T (k+2) 105 [.ref d,.ref a] g Q E:=by
 refine call_of hT.xD rfl ?_;dsimp[pX,d4,List.replicate];walk_at"";refine d0 (k:=k) hT.lf.pull (D0.snoc _) (by decide) (by decide) λr0 g1 h0 h1 D1 G1=>?_;have Al:=(Gr.snoc d g _).trans G1;have Iy:=Al.at (bH hd) ha;have l1:=Al.len;have dl:=D0.lt;have hw:∃w:RW,fB [D.str "coin",D.str "coin",D.str "lower",D.str "upper"] r0=some (.str w.s):=by
  obtain⟨j,rfl⟩:∃j:Nat,r0=j:=⟨r0.toNat,by omega⟩
  have:j=0\/j=1\/j=2\/j=3:=by omega
  rcases this with rfl|rfl|rfl|rfl
  ·exact⟨.gf,rfl⟩
  ·exact⟨.gf,rfl⟩
  ·exact⟨.lower,rfl⟩
  ·exact⟨.upper,rfl⟩
 obtain⟨w,hw⟩:=hw;walk_at"";refine n9 (a8 (G1.at (bH dl) c7)) hw ?_;walk_at"";refine AY (by omega) (by simp;omega) ?_;walk_at"";have e2:=Ex.snoc g1 (O.lst (j6 0 (Int.toNat ((cs.map a9.d).length:Nat))));have pw:=c7 (g:=g1) (o:=O.lst (j6 0 (Int.toNat ((cs.map a9.d).length:Nat))));generalize g1++[O.lst (j6 0 (Int.toNat ((cs.map a9.d).length:Nat)))]=g2 at *;have ua:=e2.at Iy;have D2:=e2.draw D1;have G2:=Al.trans (e2.gr d);have fld:∀(f:Int) (w:RW) (N:Ends),(f=0\/f=2)->(∀i c,cs[i]?=some c->∀x,meant cs w x i=decide (B5 f c=x))->N.rt=Q->aR (b9 T (k+1)) (.prim .sset (.cons (.comp [] 2 (.one 1) (.dY (.var 1)) .no (.prim .ix (.cons (.var 1) (.cons (.lit (.int f)) .nil)))) .nil)) [some (.ref d),some (.ref a),some (.str w.s),some (.ref g1.length),none] g2 (λx g3=>wpS (b9 T (k+1)) (match pX.body with|.seq _ (.seq _ (.seq _ (.seq _ b)))=>b|x=>x) N [some (.ref d),some (.ref a),some (.str w.s),some x,none] g3 E) E:=λf w N hf hm hN=>by
  walk_at"";refine comp_map (c8 T _) (λZ=>∃z0 z1,Z=[z0,z1]) (λi=>.int (B5 f (iX cs i))) (l:=cs.map a9.d) (k:=.lst a) (λg' e=>Q7 (a8 (e.at ua))) (by simp;omega) ⟨none,none,rfl⟩ (λi x Z g' hx e sh=>?_) (λg' e=>?_) (zk (c8 T _) (a8 ua) λQ q=>w_var (d:=.ref a) rfl q)
  ·obtain⟨z0,z1,rfl⟩:=sh;rw[aD,ae] at hx;obtain⟨c,hc,rfl⟩:=hx;refine E3 ?_
   try show aR _ _ _ _ _ _
   walk_at"";refine U0 (R6 hf c) ?_;exact⟨by rw[F1 hc],e,_,_,rfl⟩
  ·refine MR (ns:=(List.range cs.length).map λi=>B5 f (iX cs i)) (a8 (by rw[dX];rw[c7,aj];rfl)) (by simp;omega) ?_;have e3:=(e.trans (Ex.snoc g' (O.lst ((List.range (cs.map a9.d).length).map λi=>D.int (B5 f (iX cs i)))))).trans (Ex.snoc _ (O.lst ((A6 ((List.range cs.length).map λi=>B5 f (iX cs i))).map .int)));have HP:(A6 ((List.range cs.length).map λi=>B5 f (iX cs i))).length<=9:=aO (DM _) (by simpa using hz);refine DL (k:=k) hT (e3.draw D2) hN c7 (by have:=D2.lt;have:=e.len;simp;omega) (Sb _) HP (λx hx=>?_) λg4 D4 G4=>h g4 D4 (G2.trans ((e3.gr d).trans G4));rw[TZ] at hx;obtain⟨i,hi,rfl⟩:=aT.mp hx;have hi:=cv.mp hi;have hc:=aq hi;refine yt hi ?_;rw[hm i _ hc,F1 hc];exact aM rfl
 cases w with
 |gf =>
  refine fH (by decide +kernel) ?_;walk_at"";refine fH (by decide +kernel) ?_
  try refine E0 ?_
  have er:j6 0 (Int.toNat ((cs.map a9.d).length:Nat))=((List.range cs.length).map λ(i:Nat)=>(i:Int)).map D.int:=by
   simp[j6]
  refine DL (k:=k) hT (w:=.gf) (L:=(List.range cs.length).map λ(i:Nat)=>(i:Int)) D2 rfl (by rw[<- er];exact pw) (by omega) ?_ (by simpa using hz) (λx hx=>?_) λg4 D4 G4=>h g4 D4 (G2.trans G4)
  ·exact List.pairwise_map.mpr (List.nodup_range.imp λh e=>h (by omega))
  ·obtain⟨i,hi,rfl⟩:=aT.mp hx;exact yt (cv.mp hi) (aM rfl)
 |lower =>
  refine gG (by decide +kernel) ?_;refine P7 ?_;refine sT ?_;refine b0 (c8 T _) _ _ _ _ _ _ _ (λx g3 q=>?_) (λ_ _ z=>z) (fld 0 .lower ⟨λ_ g'=>Q .bw g',Q,λ_ _=>False,λ_ _=>False⟩ (.inl rfl) (λi c hc x=>by simp only[meant,F1 hc];rfl) rfl);refine zQ ?_;walk_at"";refine fH (by decide +kernel) ?_
  try refine E0 ?_
  exact q
 |upper =>
  refine fH (by decide +kernel) ?_;walk_at"";refine gG (by decide +kernel) ?_;refine P7 ?_;refine sT ?_;exact fld 2 .upper _ (.inr rfl) (λi c hc x=>by simp only[meant,F1 hc];rfl) rfl
end
section
variable{T:Nat->Option aN}{k d:Nat}{g g':G}{Q:KD}{E:KX}{a b c:Nat}{cs:List a9}{rs:List jZ}{v:Int}
theorem SF(hT:vk T)(ha:g[a]?=some (.lst (cs.map a9.d)))(hz:cs.length<=9)(hd:d<a)(D0:f6 g d)(h:∀(rs:List jZ) b g',rs.length<=4->rs.all (u5 cs)=true->g'[b]?=some (.lst (vg rs))->g.length<=b->f6 g' d->Gr d g g'->Q (.ref b) g'):b9 T (k+3) 106 [.ref d,.ref a] g Q E:=by
 refine call_of hT.xC rfl ?_;dsimp[ym,d4,List.replicate];walk_at"";have dl:=D0.lt;have e1:=Ex.snoc g (O.lst []);have Bs:=c7 (g:=g) (o:=O.lst []);have D1:=D0.snoc (O.lst []);generalize g++[O.lst []]=g1 at *;refine N4 (c8 T _) (pN (c8 T _) ?_);walk_at"";refine d0 (k:=k+1) hT.lf.pull (D1.snoc _) (by decide) (by decide) λr0 g2 h0 h1 D2 G2=>?_;have l1:=p9 Bs;have hw:∃j:Nat,j<=4/\fB [D.int 0,D.int 0,D.int 1,D.int 1,D.int 2,D.int 4] r0=some (.int (j:Nat)):=by
  obtain⟨j,rfl⟩:∃j:Nat,r0=j:=⟨r0.toNat,by omega⟩
  have:j=0\/j=1\/j=2\/j=3\/j=4\/j=5:=by omega
  rcases this with rfl|rfl|rfl|rfl|rfl|rfl
  ·exact⟨0,by decide,rfl⟩
  ·exact⟨0,by decide,rfl⟩
  ·exact⟨1,by decide,rfl⟩
  ·exact⟨1,by decide,rfl⟩
  ·exact⟨2,by decide,rfl⟩
  ·exact⟨4,by decide,rfl⟩
 obtain⟨j,hj,hw⟩:=hw;refine n9 (a8 (G2.at (by omega) c7)) hw ?_;refine⟨j,rfl,by omega,by omega,_,λi Z g'=>f6 g' d/\Gr d g g'/\(∃rs:List jZ,rs.length<=i/\rs.all (u5 cs)=true/\g'[g.length]?=some (.lst (vg rs)))/\∃z3 z4,Z=[some (.ref d),some (.ref a),some (.ref g.length),z3,z4],λ_ _ _ _=>A9,⟨D2,(e1.gr d).trans ((Gr.snoc d g1 _).trans G2),⟨[],by simp,rfl,((Gr.snoc d g1 _).trans G2).at (by omega) Bs⟩,none,none,rfl⟩,λi x Z g' hx q=>?_,λZ g' q=>?_⟩
 ·obtain⟨D3,G3,⟨rs,hl,hA,hF⟩,z3,z4,rfl⟩:=q;obtain⟨hi,rfl⟩:=F7 hx;have hi:i<j:=by simpa using hi
  refine E3 ?_
  try show wpS _ _ _ _ _ _
  walk_at"";have Iw:=G3.at (bH hd) ha;refine VS (k:=k) hT Iw hz hd D3 λg4 D4 G4=>⟨?_,λr hr=>?_⟩
  ·walk_at"";exact⟨D4,G3.trans G4,⟨rs,by omega,hA,G4.at (by omega) hF⟩,_,_,rfl⟩
  ·walk_at"";refine gG rfl ?_;walk_at"";have wX:=G4.at (by omega) hF
   try refine⟨yp wX,?_⟩
   walk_at"";refine sR wX (by simp[vg];omega) ?_;walk_at"";refine⟨D4.C0 (by omega),(G3.trans G4).C0 (ak _),⟨rs++[r],by simp;omega,by rw[List.all_append,hA];simp[hr],?_⟩,_,_,rfl⟩;rw[get_set wX];simp[vg]
 ·obtain⟨D3,G3,⟨rs,hl,hA,hF⟩,z3,z4,rfl⟩:=q;rw[m7] at hl
  try show wpS _ _ _ _ _ _
  walk_at"";exact h rs _ _ (by simp at hl;omega) hA hF (ak _) D3 G3
theorem Ov{cs:List a9}{i:Nat}(hi:i<cs.length):fB (cs.map a9.d) (i:Int)=some (iX cs i).d:=R7 (by rw[aD,aq hi,F1 (aq hi)];rfl)
end
def TV:aN:=⟨3,3,(.seq (.ifs (.cO (.dU (.call 74 (de aw aJ aL)))) (.seq (.raise "NoDie" (cJ (dg "no coin is of that die"))) .pass) .pass) .pass)⟩
def Rk:aN:=⟨2,4,(.seq (.ifs (bZ .NotEq (cj .len aJ) aw) (.seq (.ret (br .tup (dg "many") (cj .len aJ))) .pass) .pass) (.seq (.cH (.many [2,3]) (.jl aJ) (.seq (.ifs (.cO (.dU (.call 1 (de aV (aH 0) (br (.bin .Sub) aw (aH 1)))))) (.seq (.ret (br .tup (dg "stranger") aL)) .pass) .pass) (.seq (.ifs (bZ .In aV (br (.je false true) aJ aL)) (.seq (.ret (br .tup (dg "twice") aL)) .pass) .pass) .pass))) (.seq (.ret (.lit .bw)) .pass)))⟩
def RX:aN:=⟨2,7,(.seq (.set 2 (.call 102 (bQ (cj (.fld "size") aw) aJ))) (.seq (.ifs (bZ .IsNot aL (.lit .bw)) (.seq (.ret aL) .pass) .pass) (.seq (.set 3 (aH 0)) (.seq (.cH (.many [4,5]) (.jl aJ) (.seq (.set 6 (.call 101 (de aw aV cG))) (.seq (.ifs (bZ .IsNot df (.lit .bw)) (.seq (.ret (br .tup df bJ)) .pass) .pass) (.seq (.set 3 (.call 91 (bQ aV cG))) .pass)))) (.seq (.ret (.lit .bw)) .pass)))))⟩
def QL:aN:=⟨2,2,(.seq (.ifs (.cO (.dU (.call 1 (de aJ (aH 0) (cj (.fld "full") aw))))) (.seq (.raise "BadStand" (cJ (dg "the coins have no such stand"))) .pass) .pass) .pass)⟩
def RY:aN:=⟨3,3,(.seq (.ret (.cB (br (.cmp .NotEq) (.call 91 (bQ aJ aL)) aJ) (br (.cmp .Is) (.call 101 (de aw aJ aL)) (.lit .bw)))) .pass)⟩
def UY:aN:=⟨2,2,(.seq (.ret (.comp [0,1] 4 (.one 3) (.dN (cj (.fld "size") aw)) (.dU (.call 115 (de aw aJ aV))) aV)) .pass)⟩
def RG:aN:=⟨1,5,(.seq (.set 1 (.prim (.jR 0) .nil)) (.seq (.set 2 (.prim .lst .nil)) (.seq (.cH (.one 3) (.dN (br (.bin .Add) (cj (.fld "full") aw) (aH 1))) (.seq (.ifs (bZ .In aV aJ) (.seq (.expr (.dM .append aL (cJ aV))) (.seq (.cH (.one 4) (.dY (.call 116 (bQ aw aV))) (.seq (.expr (.dM .km aJ (cJ (.call 91 (bQ aV bJ))))) .pass)) .pass)) .pass) .pass)) (.seq (.ret aL) .pass))))⟩
def OP:aN:=⟨1,3,(.seq (.set 1 (.prim .U5 .nil)) (.seq (.cH (.one 2) (.mz (.call 117 (cJ aw))) (.seq (.ifs (bZ .Eq aL (cj (.fld "full") aw)) (.seq (.dz aJ aL (aH 1)) .pass) (.seq (.dz aJ aL (cj .sum (.comp [2,1] 4 (.one 3) (.dY (.call 116 (bQ aw aL))) .no (cq aJ (.call 91 (bQ aw aV)))))) .pass)) .pass)) (.seq (.ret aJ) .pass)))⟩
def OO:aN:=⟨4,7,(.seq (.set 4 (.call 116 (bQ aw aL))) (.seq (.set 5 aV) (.seq (.set 6 (aH 0)) (.seq (.jD (bZ .GtE cG (cq aJ (.call 91 (bQ aL (cq bJ df))))) (.seq (.jr 5 .mB (cq aJ (.call 91 (bQ aL (cq bJ df))))) (.seq (.jr 6 .iadd (aH 1)) .pass))) (.seq (.ret (br .tup (cq bJ df) cG)) .pass)))))⟩
def RE:aN:=⟨3,7,(.seq (.set 3 (.prim .lst .nil)) (.seq (.set 4 (aH 0)) (.seq (.set 5 aL) (.seq (.jD (bZ .NotEq bJ (cj (.fld "full") aw)) (.seq (.jP (.many [6,5]) (.call 122 (jC aw aJ bJ cG))) (.seq (.expr (.dM .append aV (cJ df))) (.seq (.set 4 (.call 91 (bQ bJ df))) .pass)))) (.seq (.ret aV) .pass)))))⟩
def QN:aN:=⟨1,2,(.seq (.set 1 (.call 121 (cJ aw))) (.seq (.ifs (bZ .Eq (cq aJ (aH 0)) (aH 0)) (.seq (.ret (.lit .bw)) .pass) .pass) (.seq (.ret (.call 123 (de aw aJ (aH 0)))) .pass)))⟩
def QO:aN:=⟨1,2,(.seq (.set 1 (.call 117 (cJ aw))) (.seq (.ifs (bZ .Eq (cq aJ (cj (.un .USub) (aH 1))) (cj (.fld "full") aw)) (.seq (.ret (.lit .bw)) .pass) .pass) (.seq (.ret aJ) .pass)))⟩
def Ry:aN:=⟨2,4,(.seq (.set 2 (aH 0)) (.seq (.cH (.one 3) (.dY aJ) (.seq (.ifs (.cO (.dU (.call 1 (de aV aL (br (.bin .Sub) (cj (.fld "full") aw) (aH 1)))))) (.seq (.ret (.lit (.bl false))) .pass) .pass) (.seq (.set 2 (br (.bin .Add) aV (aH 1))) .pass))) (.seq (.ret (.cB (br (.cmp .Gt) (cj .len aJ) (aH 0)) (br (.cmp .Eq) (cq aJ (aH 0)) (aH 0)))) .pass)))⟩
def TY:aN:=⟨2,5,(.seq (.expr .no) (.seq (.cH (.one 3) (.dY aJ) (.seq (.cH (.one 4) (.dY (.call 116 (bQ aw aV))) (.seq (.ifs (bZ .NotIn (.call 91 (bQ aV bJ)) aL) (.seq (.ret (.lit (.bl true))) .pass) .pass) .pass)) .pass)) (.seq (.ret (.lit (.bl false))) .pass)))⟩
def TX:aN:=⟨2,6,(.seq (.set 2 (.lit .bw)) (.seq (.cH (.one 3) (.iG (aH 1) (br (.bin .Add) (aH 9) (aH 1))) (.seq (.set 4 (.make "Bounds" 113 (de aw aV aJ))) (.seq (.set 5 (.call 124 (cJ bJ))) (.seq (.ifs (bZ .IsNot cG (.lit .bw)) (.seq (.ret (.prim .tup (de aV cG aL))) .pass) .pass) (.seq (.set 2 (.call 129 (cJ bJ))) .pass))))) (.seq (.ret (.lit .bw)) .pass)))⟩
def QM:aN:=⟨3,3,(.seq (.ifs (bZ .Eq aJ (dg "coin")) (.seq (.expr (.call 83 (bQ aw aL))) .pass) (.seq (.expr (.call 75 (de aw aJ aL))) .pass)) .pass)⟩
def UX:aN:=⟨4,4,(.seq (.ifs (bZ .NotIn aJ (.lit (.tup [(.str "coin"),(.str "lower"),(.str "upper")]))) (.seq (.raise "BadSide" (cJ (dg "asked about are coins, lower dies or upper dies"))) .pass) .pass) (.seq (.expr (.call 136 (de aw aJ aL))) (.seq (.expr (.call 136 (de aw aJ aV))) (.seq (.ifs (bZ .Eq aL aV) (.seq (.raise "SameOne" (cJ (dg "two unlike ones are asked about"))) .pass) .pass) .pass))))⟩
def O5:aN:=⟨4,4,(.seq (.ret (.call 103 (bQ (.call 99 (de aw aJ aL)) aV))) .pass)⟩
def T2:aN:=⟨5,6,(.seq (.set 5 (.call 99 (de aw aJ aL))) (.seq (.expr (.call 114 (bQ cG aV))) (.seq (.expr (.call 83 (bQ aw bJ))) (.seq (.ret (.call 115 (de cG aV bJ))) .pass))))⟩
def T3:aN:=⟨4,5,(.seq (.set 4 (.call 99 (de aw aJ aL))) (.seq (.expr (.call 114 (bQ bJ aV))) (.seq (.ret (.call 116 (bQ bJ aV))) .pass)))⟩
def zc:aN:=⟨3,3,(.seq (.ret (.call 117 (cJ (.call 99 (de aw aJ aL))))) .pass)⟩
def O7:aN:=⟨3,3,(.seq (.ret (.call 124 (cJ (.call 99 (de aw aJ aL))))) .pass)⟩
def za:aN:=⟨3,3,(.seq (.ret (cq (.call 121 (cJ (.call 99 (de aw aJ aL)))) (aH 0))) .pass)⟩
def X7:aN:=⟨4,6,(.seq (.set 4 (.call 99 (de aw aJ aL))) (.seq (.set 5 (.call 121 (cJ bJ))) (.seq (.ifs (.cO (.dU (.call 1 (de aV (aH 0) (br (.bin .Sub) (cq cG (aH 0)) (aH 1)))))) (.seq (.raise "BadNumber" (cJ (dg "no order has that number"))) .pass) .pass) (.seq (.ret (.call 123 (de bJ cG aV))) .pass))))⟩
def T1:aN:=⟨4,10,(.seq (.set 4 (.call 99 (de aw aJ aL))) (.seq (.ifs (bZ .IsNot (.call 103 (bQ bJ aV)) (.lit .bw)) (.seq (.ret (.lit .bw)) .pass) .pass) (.seq (.set 5 (.call 121 (cJ bJ))) (.seq (.set 6 (aH 0)) (.seq (.set 7 (aH 0)) (.seq (.cH (.one 8) (.dY aV) (.seq (.set 9 (.comp [8] 3 (.one 2) (.dY (.call 116 (bQ bJ fe))) (bZ .Lt aL aw) aL)) (.seq (.jr 6 .iadd (cj .sum (.comp [7,5] 4 (.one 3) (.dY iF) .no (cq aJ (.call 91 (bQ aw aV)))))) (.seq (.set 7 (.call 91 (bQ fe gz))) .pass)))) (.seq (.ret df) .pass)))))))⟩
def zb:aN:=⟨3,3,(.seq (.ret (.call 129 (cJ (.call 99 (de aw aJ aL))))) .pass)⟩
def zA:aN:=⟨4,5,(.seq (.set 4 (.call 99 (de aw aJ aL))) (.seq (.ret (.cB (.call 130 (bQ bJ aV)) (.cO (.call 131 (bQ bJ aV))))) .pass))⟩
def yS:aN:=⟨2,3,(.seq (.expr (.call 18 (cJ aw))) (.seq (.expr (.call 89 (bQ aw aJ))) (.seq (.set 2 (.call 134 (bQ aw aJ))) (.seq (.ifs (bZ .Is aL (.lit .bw)) (.seq (.raise "NoOrder" (cJ (dg "there is no order with any count of anvils"))) .pass) .pass) (.seq (.ret aL) .pass)))))⟩
def uK:aN:=⟨6,10,(.seq (.expr (.call 98 (de aw aJ aL))) (.seq (.expr (.call 137 (jC aw aV bJ cG))) (.seq (.set 6 (.make "Bounds" 113 (de aw aJ (br (.bin .Add) aL (cj .lst (.prim .tup (de aV bJ cG))))))) (.seq (.set 7 (.make "Bounds" 113 (de aw aJ (br (.bin .Add) aL (cj .lst (.prim .tup (de aV cG bJ))))))) (.seq (.set 8 (.call 124 (cJ df))) (.seq (.set 9 (.call 124 (cJ fe))) (.seq (.ifs (.cB (bZ .Is gz (.lit .bw)) (bZ .Is iF (.lit .bw))) (.seq (.raise "NoOrder" (cJ (dg "there is no order"))) .pass) .pass) (.seq (.ifs (bZ .Is iF (.lit .bw)) (.seq (.ret (br .tup (dg "first") (.call 129 (cJ fe)))) .pass) .pass) (.seq (.ifs (bZ .Is gz (.lit .bw)) (.seq (.ret (br .tup (dg "later") (.call 129 (cJ df)))) .pass) .pass) (.seq (.ret (.prim .tup (de (dg "either") gz iF))) .pass))))))))))⟩
def yU:aN:=⟨6,6,(.seq (.ret (cq (.call 138 (oG aw aJ aL aV bJ cG)) (aH 0))) .pass)⟩
def yT:aN:=⟨2,6,(.seq (.jP (.many [2,3,4]) aJ) (.seq (.ifs (.jg (bZ .Eq aV bJ) (bZ .NotIn aL (.prim .lst (de (dg "coin") (dg "lower") (dg "upper"))))) (.seq (.ret (.lit (.bl false))) .pass) .pass) (.seq (.ifs (bZ .Eq aL (dg "coin")) (.seq (.ret (.cB (br (.cmp .LtE) (aH 0) (br .min aV bJ)) (br (.cmp .Lt) (br .max aV bJ) (cj .len aw)))) .pass) .pass) (.seq (.set 5 (.comp [2] 3 (.one 2) (.dY aw) .no (.ite (bZ .Eq aw (dg "lower")) (cq aL (aH 0)) (cq aL (aH 2))))) (.seq (.ret (.cB (br (.cmp .In) aV cG) (br (.cmp .In) bJ cG))) .pass)))))⟩
def q8:aN:=⟨3,7,(.seq (.ifs (bZ .Gt (.call 4 (bQ aw (aH 4))) (aH 0)) (.seq (.ret aL) .pass) .pass) (.seq (.set 3 (cq (.prim .lst (oG (dg "coin") (dg "lower") (dg "upper") (dg "Coin") (dg "") (dg "both"))) (.call 4 (bQ aw (aH 6))))) (.seq (.set 4 (.call 36 (bQ aw (cj .len aJ)))) (.seq (.set 5 (.ite (bZ .Eq (.call 4 (bQ aw (aH 4))) (aH 0)) bJ (.call 36 (bQ aw (cj .len aJ))))) (.seq (.ifs (.cB (bZ .In aV (br .lst (dg "lower") (dg "upper"))) (.cB (bZ .Gt (cj .len aJ) (aH 0)) (bZ .Eq (.call 4 (bQ aw (aH 2))) (aH 0)))) (.seq (.set 4 (cq (cq aJ (.call 4 (bQ aw (cj .len aJ)))) (.ite (bZ .Eq aV (dg "lower")) (aH 0) (aH 2)))) .pass) .pass) (.seq (.set 6 (.call 4 (bQ aw (br (.bin .Add) (cj .len aL) (aH 1))))) (.seq (.ret (br (.bin .Add) (br (.bin .Add) (br (.je false true) aL df) (cj .lst (.prim .tup (de aV bJ cG)))) (br (.je true false) aL df))) .pass)))))))⟩
def T5:aN:=⟨3,3,(.seq (.ifs (bZ .NotEq (.call 28 (cJ aw)) (dg "")) (.seq (.ret (.call 28 (cJ aw))) .pass) .pass) (.seq (.ifs (.cO (.dU (.chain .LtE .LtE (aH 1) aJ (aH 9)))) (.seq (.ret (dg "BadAnvils")) .pass) .pass) (.seq (.ifs (.cO (.dU (cj .all (.comp [0] 3 (.one 2) (.dY aL) .no (.call 140 (bQ aw aL)))))) (.seq (.ret (dg "BadRule")) .pass) .pass) (.seq (.ret (dg "")) .pass))))⟩
def T7:aN:=⟨2,2,(.seq (.ifs (bZ .Gt (.call 4 (bQ aw (aH 5))) (aH 0)) (.seq (.ret aJ) .pass) .pass) (.seq (.ret (cq (.prim .lst (kW (aH 0) (aH 10) (aH 9) (cj (.un .USub) (aH 1)) (.call 5 (cJ aw)))) (.call 4 (bQ aw (aH 5))))) .pass))⟩
def zB:aN:=⟨4,4,(.seq (.ifs (bZ .Eq aw (aH 0)) (.seq (.ret (.call 104 (jC aJ aL aV (.prim .lst .nil)))) .pass) .pass) (.seq (.ifs (bZ .Eq aw (aH 1)) (.seq (.ret (.call 118 (kW aJ aL aV (cj (.un .USub) (aH 1)) (cj (.un .USub) (aH 1))))) .pass) .pass) (.seq (.ifs (bZ .Eq aw (aH 2)) (.seq (.ret (.call 119 (jC aJ aL aV (cj (.un .USub) (aH 1))))) .pass) .pass) (.seq (.ifs (bZ .Eq aw (aH 3)) (.seq (.ret (.call 127 (jC aJ aL aV (cj (.un .USub) (aH 1))))) .pass) .pass) (.seq (.ifs (bZ .Eq aw (aH 4)) (.seq (.ret (.call 128 (jC aJ aL aV (.prim .lst .nil)))) .pass) .pass) (.seq (.ifs (bZ .Eq aw (aH 5)) (.seq (.ret (.call 133 (jC aJ aL aV (.prim .lst .nil)))) .pass) .pass) (.seq (.ifs (bZ .Eq aw (aH 6)) (.seq (.ret (.call 139 (oG aJ aL aV (dg "") (cj (.un .USub) (aH 1)) (cj (.un .USub) (aH 1))))) .pass) .pass) (.seq (.ifs (bZ .Eq aw (aH 7)) (.seq (.ret (.call 138 (oG aJ aL aV (dg "") (cj (.un .USub) (aH 1)) (cj (.un .USub) (aH 1))))) .pass) .pass) (.seq (.ifs (bZ .Eq aw (aH 8)) (.seq (.ret (.call 135 (bQ aJ aV))) .pass) .pass) (.seq (.ret (.iB [120,125,126,132] 0 9 (de aJ aL aV))) .pass))))))))))⟩
def yV:aN:=⟨4,4,(.seq (.S0 (.seq (.expr (.call 144 (jC aw aJ aL aV))) .pass) [("TooMany",(.lit (.str "TooMany"))),("BadCoin",(.lit (.str "BadCoin"))),("BadAnvils",(.lit (.str "BadAnvils"))),("BadRule",(.lit (.str "BadRule")))]) (.seq (.ret (dg "")) .pass))⟩
def X8:aN:=⟨1,10,(.seq (.set 1 (.call 3 (cJ aw))) (.seq (.cH (.one 2) (.dN (aH 2)) (.seq (.jP (.many [3,4]) (.call 26 (bQ aJ (aH 9)))) (.seq (.set 5 (.call 27 (bQ aJ aV))) (.seq (.set 6 (.call 141 (de aJ aV (.call 106 (bQ aJ aV))))) (.seq (.set 4 (.call 143 (bQ aJ bJ))) (.seq (.cH (.one 7) (.dN (aH 13)) (.seq (.set 8 (.call 142 (de cG (.ite (bZ .Eq fe (aH 8)) (aH 1) bJ) df))) (.seq (.set 9 (br .lst (cj .list cG) (cj .list df))) (.seq (.ifs (.cB (bZ .NotEq gz (dg "")) (bZ .NotEq (.call 145 (jC fe (cq iF (aH 0)) bJ (cq iF (aH 1)))) gz)) (.seq (.ret (.lit (.bl false))) .pass) .pass) (.seq (.ifs (bZ .NotEq iF (br .lst cG df)) (.seq (.ret (.lit (.bl false))) .pass) .pass) .pass))))) .pass)))))) (.seq (.ret (.lit (.bl true))) .pass)))⟩
structure kx(T:Nat->Option aN):Prop where
 tb:sW T
 nQ:vk T
 xb:T 42=some E7
 IG:T 98=some P0
 IF:T 99=some Y3
 xE:T 104=some O5
 xB:T 118=some T2
 xA:T 119=some T3
 xy:T 120=some zc
 xw:T 125=some O7
 xu:T 126=some za
 xt:T 127=some X7
 xr:T 128=some T1
 xq:T 132=some zb
 xp:T 133=some zA
 xo:T 135=some yS
 rR:T 138=some uK
 xn:T 139=some yU
 h3:T 3=some uD
 h5:T 5=some Y1
 h8:T 8=some G0
 pH:T 13=some C7
 rQ:T 14=some K0
 xc:T 27=some C8
 ue:T 28=some O0
 IJ:T 36=some zC
 xl:T 140=some yT
 xk:T 141=some q8
 xj:T 142=some T5
 xi:T 143=some T7
 xh:T 144=some zB
 xg:T 145=some yV
 IS:T 11=some X8
theorem DA{g:G}{y:D}{x:Str}{kb:Bool->Prop}(hy:E9 g y=some [.str "coin",.str "lower",.str "upper"])(hx:PyData.strOk x=true)(h:kb (decide (x="coin")||(decide (x="lower")||decide (x="upper")))):mZ g (.str x) y kb:=by
 refine⟨_,.inr ⟨_,[.str "coin",.str "lower",.str "upper"],.str x,hy,rfl,rfl,by simp only[PyData.canLayAll0,PyData.canLay0,Bool.and_true];decide +kernel,by simp only[PyData.canLay0];exact hx,rfl⟩,?_⟩;have e:∀y:Str,PyData.eqv (.str y) (.str x)=decide (x=y):=λy=>by
  simp only[PyData.eqv];rw[bp,fg,bP];exact eq_comm
 simp only[List.any_cons,List.any_nil,Bool.or_false,e];exact h
def K4(s:Str):Prop:=s="Coin"\/s=""\/s="both"
theorem K4.ok{s:Str}(h:K4 s):PyData.strOk s=true:=by rcases h with rfl|rfl|rfl<;>decide +kernel
theorem K4.no{s:Str}(h:K4 s):(decide (s="coin")||(decide (s="lower")||decide (s="upper")))=false:=by rcases h with rfl|rfl|rfl<;>decide +kernel
theorem RW.ok(w:RW):PyData.strOk w.s=true:=by cases w<;>decide +kernel
theorem RW.yes(w:RW):(decide (w.s="coin")||(decide (w.s="lower")||decide (w.s="upper")))=true:=by cases w<;>decide +kernel
inductive Rg where
 |g (r:jZ)
 |b (s:Str) (x y:Int)
def Rg.s:Rg->Str
 |.g r=>r.w.s
 |.b s _ _=>s
def Rg.x:Rg->Int
 |.g r=>r.x
 |.b _ x _=>x
def Rg.y:Rg->Int
 |.g r=>r.y
 |.b _ _ y=>y
def Rg.d(r:Rg):D:=.tup [.str r.s,.int r.x,.int r.y]
def Rg.ok:Rg->Prop
 |.g _=>True
 |.b s _ _=>K4 s
def goodG(cs:List a9):Rg->Bool
 |.g r=>u5 cs r
 |.b ..=>false
theorem Rg.AD{r:Rg}(h:r.ok):PyData.strOk r.s=true:=by
 cases r with
 |g r=>exact RW.ok _
 |b s x y=>exact K4.ok h
def p6(cs:List a9)(v:Int)(rs:List Rg):Str:=if wordOf cs="" then(if 1<=v/\v<=9 then(if rs.all (goodG cs)=true then "" else "BadRule") else "BadAnvils") else wordOf cs
theorem UH(cs:List a9):wordOf cs=""\/wordOf cs="TooMany"\/wordOf cs="BadCoin":=by
 unfold wordOf;split
 ·simp
 ·split<;>simp
theorem WG{cs:List a9}{v:Int}{rs:List Rg}(h:p6 cs v rs≠""):p6 cs v rs="TooMany"\/p6 cs v rs="BadCoin"\/p6 cs v rs="BadAnvils"\/p6 cs v rs="BadRule":=by
 unfold p6 at h ⊢;split
 ·rename_i c;rw[aG c] at h;split
  ·rename_i c;rw[aG c] at h;split
   ·rename_i c;rw[aG c] at h;exact absurd rfl h
   ·simp
  ·simp
 ·rename_i c;rcases UH cs with z|z|z
  ·exact absurd z c
  ·simp[z]
  ·simp[z]
theorem Fv(cs:List a9)(w:RW)(x:Int):(!(ju cs w x).isEmpty)=(List.range cs.length).any (meant cs w x):=by
 rw[bp];constructor
 ·intro h;cases e:ju cs w x with
  |nil=>rw[e] at h;cases h
  |cons i _ =>
   have hi:i∈ju cs w x:=by rw[e];simp
   obtain⟨h1,h2⟩:=cg.mp hi;exact eE.mpr ⟨i,h1,h2⟩
 ·intro h;obtain⟨i,h1,h2⟩:=eE.mp h;rw[yt (cv.mp h1) h2]
  rfl
theorem CW(cs:List a9)(x:Int):(!(ju cs .gf x).isEmpty)=decide (0<=x/\x<cs.length):=by
 rw[Fv,bp,bP,eE];constructor
 ·intro⟨i,h1,h2⟩;have h1:=cv.mp h1;have h2:(i:Int)=x:=aY h2;omega
 ·intro h;exact⟨x.toNat,cv.mpr (by omega),aM (by omega)⟩
theorem Fw{cs:List a9}{w:RW}{f x:Int}(hm:∀i,meant cs w x i=decide (B5 f (iX cs i)=x)):(!(ju cs w x).isEmpty)=(((List.range cs.length).map λi=>B5 f (iX cs i)).any λm=>m==x):=by
 rw[Fv,qg]
 congr 1
 funext i
 rw[hm i];exact bp.mpr (by simp)
section
variable{T:Nat->Option aN}{k d:Nat}{g g':G}{Q:KD}{E:KX}{a b c:Nat}{cs:List a9}{rs:List Rg}{v:Int}
theorem WJ(hT:sW T){r:Rg}(hr:r.ok)(ha:g[a]?=some (.lst (cs.map a9.d)))(hz:cs.length<=1000)(h:∀g',Ex g g'->Q (.bl (goodG cs r)) g'):b9 T (k+4) 88 [.ref a,r.d] g Q E:=by
 cases r with
 |g r=>exact Rh hT ha hz h
 |b s x y =>
  refine call_of hT.BA rfl ?_;dsimp[O1,d4,List.replicate];walk_at"";refine C4 (l:=[.str s,.int x,.int y]) rfl ?_;walk_at"";refine uv (DA rfl (K4.ok hr) ?_);rw[K4.no hr];walk_at"";exact h _ (Ex.refl _)
theorem Dw(hT:sW T)(ha:g[a]?=some (.lst (cs.map a9.d)))(hz:cs.length<=1000)(hc:g[c]?=some (.lst (rs.map Rg.d)))(hr:rs.length<=900)(ho:∀r∈rs,r.ok)(h:rs.all (goodG cs)=true->∀g',Ex g g'->Q .bw g')(hn:rs.all (goodG cs)=false->∀g',Ex g g'->E ⟨"BadRule"⟩ g'):b9 T (k+5) 89 [.ref a,.ref c] g Q E:=by
 refine call_of hT.IH rfl ?_;dsimp[O8,d4,List.replicate];walk_at"";refine N4 (c8 T _) (wb ?_);walk_at"";refine⟨c,_,rfl,a8 hc,nC (rs.map Rg.d),λi Z g'=>Ex g g'/\(∃z2 z3,Z=[some (.ref a),some (.ref c),z2,z3])/\(rs.take i).all (goodG cs)=true,λi Z g' q=>EF (a8 (q.1.at hc)),⟨Ex.refl _,⟨none,none,rfl⟩,rfl⟩,λi x Z g' hx q=>?_,λZ g' q=>?_⟩
 ·obtain⟨e1,⟨z2,z3,rfl⟩,q⟩:=q;obtain⟨dd,hd,rfl⟩:=Fd hx;rw[aD,ae] at hd;obtain⟨r,jm,rfl⟩:=hd;have tk:rs.take (i+1)=rs.take i++[r]:=by rw[hW,jm];rfl
  refine C4 rfl ?_
  try show wpS _ _ _ _ _ _
  walk_at"";refine WJ (k:=k) hT (ho r (aZ jm)) (e1.at ha) hz λg2 e2=>?_;walk_at"";cases hg:goodG cs r with
  |true =>
   walk_at"";exact⟨e1.trans e2,⟨_,_,rfl⟩,by rw[tk,List.all_append,q];simp[hg]⟩
  |false =>
   walk_at"";have hi:i<rs.length:=(av.mp jm).1;refine Pp ?_ ?_
   ·have:(i:Int).natAbs<2 ^ 10:=by rw[GG];omega
    rw[GG] at this ⊢;by_cases h0:i=0
    ·subst h0;decide
    ·exact cu ((Nat.log2_lt h0).mpr this) (by decide)
   walk_at"";refine MQ rfl ?_;walk_at"";refine hn ?_ _ (e1.trans e2);rw[WW];exact⟨r,aZ jm,by rw[hg];decide⟩
 ·obtain⟨e1,⟨z2,z3,rfl⟩,q⟩:=q;rw[yM,aj,fV] at q;exact h q _ e1
theorem Wv{cs:List a9}(h9:cs.length<=9)(hg:cs.all k6=true):wordOf cs="":=by
 unfold wordOf;rw[aE (by omega),aG hg]
theorem CJ(hT:sW T)(ha:g[a]?=some (.lst (cs.map a9.d)))(hz:cs.length<=1000)(hd:wordOf cs≠""->E ⟨wordOf cs⟩ g)(h:wordOf cs=""->cs.length<=9->cs.all k6=true->Q .bw g):b9 T (k+6) 18 [.ref a] g Q E:=by
 refine RC (k:=k) hT.nf hT.h2 hT.rS hT.uf ha hz (λc=>?_) (λc c'=>?_) λh9 hg=>h (Wv h9 hg) h9 hg
 ·have:wordOf cs="TooMany":=by unfold wordOf;rw[aG c]
  rw[this] at hd;exact hd (by decide +kernel)
 ·have:wordOf cs="BadCoin":=by unfold wordOf;rw[aE (by omega),aE (by rw[c'];decide)]
  rw[this] at hd;exact hd (by decide +kernel)
theorem CH(hT:kx T)(ha:g[a]?=some (.lst (cs.map a9.d)))(hz:cs.length<=1000)(hc:g[c]?=some (.lst (rs.map Rg.d)))(hr:rs.length<=900)(ho:∀r∈rs,r.ok)(hd:p6 cs v rs≠"")(h:∀g',Ex g g'->E ⟨p6 cs v rs⟩ g'):b9 T (k+7) 98 [.ref a,.int v,.ref c] g Q E:=by
 refine call_of hT.IG rfl ?_;dsimp[P0,d4,List.replicate];walk_at"";refine CJ (k:=k) hT.tb ha hz (λw=>?_) λw h9 hg=>?_
 ·have:=h g (Ex.refl g)
  rwa [p6,aE w] at this
 walk_at"";rw[p6,aG w] at h hd;refine RI (k:=k+3) hT.tb.nf hT.xb (λv1 v2=>?_) (λvn=>?_)
 ·rw[aG ⟨v1,v2⟩] at h hd;walk_at"";refine Dw (k:=k+1) hT.tb ha hz hc hr ho (λz=>?_) (λz g' e=>?_)
  ·rw[aG z] at hd;exact absurd rfl hd
  ·rw[aE (by rw[z];decide)] at h;exact h g' e
 ·rw[aE vn] at h;exact h g (Ex.refl g)
theorem Tj(hT:kx T)(ha:g[a]?=some (.lst (cs.map a9.d)))(hz:cs.length<=1000)(hc:g[c]?=some (.lst (rs.map Rg.d)))(hr:rs.length<=900)(ho:∀r∈rs,r.ok)(hd:p6 cs v rs≠"")(h:∀g',Ex g g'->E ⟨p6 cs v rs⟩ g'):b9 T (k+8) 99 [.ref a,.int v,.ref c] g Q E:=by
 refine call_of hT.IF rfl ?_;dsimp[Y3,d4,List.replicate];walk_at"";exact CH (k:=k) hT ha hz hc hr ho hd h
theorem TB(hT:kx T)(ha:g[a]?=some (.lst (cs.map a9.d)))(hz:cs.length<=1000)(hc:g[c]?=some (.lst (rs.map Rg.d)))(hr:rs.length<=900)(ho:∀r∈rs,r.ok)(hd:p6 cs 1 rs≠"")(h:∀g',Ex g g'->E ⟨p6 cs 1 rs⟩ g'):b9 T (k+8) 135 [.ref a,.ref c] g Q E:=by
 refine call_of hT.xo rfl ?_;dsimp[yS,d4,List.replicate];walk_at"";refine CJ (k:=k+1) hT.tb ha hz (λw=>?_) λw h9 hg=>?_
 ·have:=h g (Ex.refl g)
  rwa [p6,aE w] at this
 walk_at"";rw[p6,aG w,aG ⟨by decide,by decide⟩] at h hd;refine Dw (k:=k+2) hT.tb ha hz hc hr ho (λz=>?_) (λz g' e=>?_)
 ·rw[aG z] at hd;exact absurd rfl hd
 ·rw[aE (by rw[z];decide)] at h;exact h g' e
def vW(way:Nat)(v:Int):Int:=if way=8 then 1 else v
theorem Oz(hT:kx T){way:Nat}(hw:way<13)(ha:g[a]?=some (.lst (cs.map a9.d)))(hz:cs.length<=1000)(hc:g[c]?=some (.lst (rs.map Rg.d)))(hr:rs.length<=900)(ho:∀r∈rs,r.ok)(hd:p6 cs (vW way v) rs≠"")(h:∀g',Ex g g'->E ⟨p6 cs (vW way v) rs⟩ g'):b9 T (k+11) 144 [.int way,.ref a,.int v,.ref c] g Q E:=by
 refine call_of hT.xh rfl ?_;have w0:way=0\/way=1\/way=2\/way=3\/way=4\/way=5\/way=6\/way=7\/way=8\/way=9\/way=10\/way=11\/way=12:=by omega
 have bo:∀{Q':KD} {j:Nat} {g1:G},vW way v=v->Ex g g1->b9 T (k+(8+j)) 99 [.ref a,.int v,.ref c] g1 Q' E:=λ{Q' j g1} e e1=>by
  rw[e] at h hd;rw[show k+(8+j)=(k+j)+8 by omega];exact Tj (k:=k+j) hT (e1.at ha) hz (e1.at hc) hr ho hd λg' e2=>h g' (e1.trans e2)
 have as:∀{Q':KD} {j:Nat} {g1:G},vW way v=v->Ex g g1->b9 T (k+(7+j)) 98 [.ref a,.int v,.ref c] g1 Q' E:=λ{Q' j g1} e e1=>by
  rw[e] at h hd;rw[show k+(7+j)=(k+j)+7 by omega];exact CH (k:=k+j) hT (e1.at ha) hz (e1.at hc) hr ho hd λg' e2=>h g' (e1.trans e2)
 dsimp[zB,d4,List.replicate];rcases w0 with rfl|rfl|rfl|rfl|rfl|rfl|rfl|rfl|rfl|rfl|rfl|rfl|rfl
 ·walk_at"";refine gG (by decide) ?_;walk_at"";refine call_of hT.xE rfl ?_;dsimp[O5,d4,List.replicate];walk_at"";exact bo (j:=1) rfl (Ex.snoc _ _)
 ·walk_at"";refine fH (by decide) ?_;walk_at"";refine gG (by decide) ?_;walk_at"";refine call_of hT.xB rfl ?_;dsimp[T2,d4,List.replicate];walk_at"";exact bo (j:=1) rfl (Ex.refl _)
 ·walk_at""
  iterate 2 (refine fH (by decide) ?_;walk_at"")
  refine gG (by decide) ?_;walk_at"";refine call_of hT.xA rfl ?_;dsimp[T3,d4,List.replicate];walk_at"";exact bo (j:=1) rfl (Ex.refl _)
 ·walk_at""
  iterate 3 (refine fH (by decide) ?_;walk_at"")
  refine gG (by decide) ?_;walk_at"";refine call_of hT.xt rfl ?_;dsimp[X7,d4,List.replicate];walk_at"";exact bo (j:=1) rfl (Ex.refl _)
 ·walk_at""
  iterate 4 (refine fH (by decide) ?_;walk_at"")
  refine gG (by decide) ?_;walk_at"";refine call_of hT.xr rfl ?_;dsimp[T1,d4,List.replicate];walk_at"";exact bo (j:=1) rfl (Ex.snoc _ _)
 ·walk_at""
  iterate 5 (refine fH (by decide) ?_;walk_at"")
  refine gG (by decide) ?_;walk_at"";refine call_of hT.xp rfl ?_;dsimp[zA,d4,List.replicate];walk_at"";exact bo (j:=1) rfl (Ex.snoc _ _)
 ·walk_at""
  iterate 6 (refine fH (by decide) ?_;walk_at"")
  refine gG (by decide) ?_;walk_at"";refine call_of hT.xn rfl ?_;dsimp[yU,d4,List.replicate];walk_at"";refine call_of hT.rR rfl ?_;dsimp[uK,d4,List.replicate];walk_at"";exact as (j:=1) rfl (Ex.refl _)
 ·walk_at""
  iterate 7 (refine fH (by decide) ?_;walk_at"")
  refine gG (by decide) ?_;walk_at"";refine call_of hT.rR rfl ?_;dsimp[uK,d4,List.replicate];walk_at"";exact as (j:=2) rfl (Ex.refl _)
 ·walk_at""
  iterate 8 (refine fH (by decide) ?_;walk_at"")
  refine gG (by decide) ?_;walk_at"";exact TB (k:=k+2) hT ha hz hc hr ho hd h
 ·walk_at""
  iterate 9 (refine fH (by decide) ?_;walk_at"")
  refine uS (f:=120) rfl rfl ?_;walk_at"";refine call_of hT.xy rfl ?_;dsimp[zc,d4,List.replicate];walk_at"";exact bo (j:=1) rfl (Ex.refl _)
 ·walk_at""
  iterate 9 (refine fH (by decide) ?_;walk_at"")
  refine uS (f:=125) rfl rfl ?_;walk_at"";refine call_of hT.xw rfl ?_;dsimp[O7,d4,List.replicate];walk_at"";exact bo (j:=1) rfl (Ex.refl _)
 ·walk_at""
  iterate 9 (refine fH (by decide) ?_;walk_at"")
  refine uS (f:=126) rfl rfl ?_;walk_at"";refine call_of hT.xu rfl ?_;dsimp[za,d4,List.replicate];walk_at"";exact bo (j:=1) rfl (Ex.refl _)
 ·walk_at""
  iterate 9 (refine fH (by decide) ?_;walk_at"")
  refine uS (f:=132) rfl rfl ?_;walk_at"";refine call_of hT.xq rfl ?_;dsimp[zb,d4,List.replicate];walk_at"";exact bo (j:=1) rfl (Ex.refl _)
theorem Vu(hT:kx T){way:Nat}(hw:way<13)(ha:g[a]?=some (.lst (cs.map a9.d)))(hz:cs.length<=1000)(hc:g[c]?=some (.lst (rs.map Rg.d)))(hr:rs.length<=900)(ho:∀r∈rs,r.ok)(hd:p6 cs (vW way v) rs≠"")(h:∀g',Ex g g'->Q (.str (p6 cs (vW way v) rs)) g'):b9 T (k+12) 145 [.int way,.ref a,.int v,.ref c] g Q E:=by
 refine call_of hT.xg rfl ?_;dsimp[yV,d4,List.replicate];walk_at"";refine Oz (k:=k) hT hw ha hz hc hr ho hd λg' e=>?_;have hq:=h g' e;rcases WG hd with z|z|z|z<;>rw[z] at hq ⊢
 ·exact uA rfl (w_lit hq)
 ·exact Q8 (by decide +kernel) (uA rfl (w_lit hq))
 ·exact Q8 (by decide +kernel) (Q8 (by decide +kernel) (uA rfl (w_lit hq)))
 ·exact Q8 (by decide +kernel) (Q8 (by decide +kernel) (Q8 (by decide +kernel) (uA rfl (w_lit hq))))
theorem RV(hT:kx T){r:Rg}(hr:r.ok)(ha:g[a]?=some (.lst (cs.map a9.d)))(hz:cs.length<=9)(h:∀g',Ex g g'->Q (.bl (goodG cs r)) g'):b9 T (k+1) 140 [.ref a,r.d] g Q E:=by
 refine call_of hT.xl rfl ?_;dsimp[yT,d4,List.replicate];walk_at"";refine C4 (l:=[.str r.s,.int r.x,.int r.y]) rfl ?_;walk_at"";refine if2 (λh1=>?_) (λh1=>?_)
 ·walk_at"";have:goodG cs r=false:=by
   cases r with
   |g r =>
    show u5 cs r=false;have h1:r.x=r.y:=h1;unfold u5;rw[aM h1]
    rfl
   |b s x y=>rfl
  rw[<- this];exact h _ (Ex.refl _)
 walk_at"";refine uv (DA (y:=.ref g.length) (a8 c7) (Rg.AD hr) ?_);walk_at"";have e1:=Ex.snoc g (O.lst [D.str "coin",D.str "lower",D.str "upper"]);cases r with
 |b s x y =>
  have hr:K4 s:=hr;refine gG (show(!(decide (s="coin")||(decide (s="lower")||decide (s="upper"))))=true by rw[hr.no];rfl) ?_;walk_at"";exact h _ e1
 |g r =>
  obtain⟨w,x,y⟩:=r;have h1:¬x=y:=h1;refine fH (show(!(decide (w.s="coin")||(decide (w.s="lower")||decide (w.s="upper"))))=false by rw[w.yes];rfl) ?_;walk_at"";have HZ:goodG cs (.g ⟨w,x,y⟩)=((!(ju cs w x).isEmpty)&&(!(ju cs w y).isEmpty)):=by
   show u5 cs ⟨w,x,y⟩=_;unfold u5;rw[aC h1]
   rfl
  rw[HZ] at h;have BW:∀f:Int,(f=0\/f=2)->w≠.gf->decide (w.s="lower")=decide (f=0)->(∀x i,meant cs w x i=decide (B5 f (iX cs i)=x))->aR (b9 T k) (.comp [2] 3 (.one 2) (.dY (.var 0)) .no (.ite (.dU (.prim (.cmp .Eq) (.cons (.var 0) (.cons (.lit (.str "lower")) .nil)))) (.prim .ix (.cons (.var 2) (.cons (.lit (.int 0)) .nil))) (.prim .ix (.cons (.var 2) (.cons (.lit (.int 2)) .nil))))) [some (.ref a),some (Rg.g ⟨w,x,y⟩).d,some (.str w.s),some (.int x),some (.int y),none] (g++[O.lst [D.str "coin",D.str "lower",D.str "upper"]]) (λd g1=>wpS (b9 T k) (.ret (.cB (.prim (.cmp .In) (.cons (.var 3) (.cons (.var 5) .nil))) (.prim (.cmp .In) (.cons (.var 4) (.cons (.var 5) .nil))))) ⟨λ_ g'=>Q .bw g',Q,λ_ _=>False,λ_ _=>False⟩ [some (.ref a),some (Rg.g ⟨w,x,y⟩).d,some (.str w.s),some (.int x),some (.int y),some d] g1 E) E:=λf hf hw hl hm=>by
   rw[Fw (hm x),Fw (hm y)] at h;refine comp_map (c8 T _) (λZ=>∃z1 z2,Z=[some (.str w.s),z1,z2]) (λi=>.int (B5 f (iX cs i))) (l:=cs.map a9.d) (k:=.lst a) (λg' e=>Q7 (a8 ((e1.trans e).at ha))) (by simp;omega) ⟨none,none,rfl⟩ (λi x Z g' hx e sh=>?_) (λg' e=>?_) (zk (c8 T _) (a8 (e1.at ha)) λQ q=>w_var (d:=.ref a) rfl q)
   ·obtain⟨z1,z2,rfl⟩:=sh;rw[aD,ae] at hx;obtain⟨c,hc,rfl⟩:=hx;refine E3 ?_
    try show aR _ _ _ _ _ _
    walk_at"";refine if2 (λc1=>?_) (λc1=>?_)
    ·rw[aM c1] at hl;have Ih:f=0:=aY hl.symm;subst Ih;walk_at"";exact U0 (R6 hf c) ⟨by rw[F1 hc],e,z1,_,rfl⟩
    ·rw[aC c1] at hl;have Ig:f=2:=by
      rcases hf with z|z
      ·exact absurd z (of_decide_eq_false hl.symm)
      ·exact z
     subst Ig;walk_at"";exact U0 (R6 hf c) ⟨by rw[F1 hc],e,z1,_,rfl⟩
   ·have e3:=(e1.trans e).trans (Ex.snoc g' (O.lst ((List.range (cs.map a9.d).length).map λi=>D.int (B5 f (iX cs i)))));have gl:(g'++[O.lst ((List.range (cs.map a9.d).length).map λi=>D.int (B5 f (iX cs i)))])[g'.length]?=some (.lst (((List.range cs.length).map λi=>B5 f (iX cs i)).map .int)):=by
     rw[dX,c7,aj]
     rfl
    have:=h _ e3;walk_at"";refine sA (Dy (a8 gl) ?_);cases hx:((List.range cs.length).map λi=>B5 f (iX cs i)).any λm=>m==x with
    |false =>
     rw[hx] at this;walk_at"";exact this
    |true =>
     rw[hx] at this;walk_at"";refine sA (Dy (a8 gl) ?_);exact this
  cases w with
  |gf =>
   refine gG (show decide (RW.gf.s="coin")=true by decide +kernel) ?_;walk_at"";rw[CW,CW] at h;by_cases c1:0<=(if y<x then y else x)
   ·refine gG (aM c1) ?_;walk_at"";refine L1 (a8 (e1.at ha)) ?_;walk_at"";rw[aj];have:=h _ e1;have ee:(decide (0<=x/\x<(cs.length:Int))&&decide (0<=y/\y<(cs.length:Int)))=decide ((if x<y then y else x)<(cs.length:Int)):=by
     rw[<- Bool.decide_and];exact decide_eq_decide.mpr (by split at c1<;>split<;>omega)
    rw[ee] at this;exact this
   ·refine fH (aC c1) ?_;have:=h _ e1;have ee:(decide (0<=x/\x<(cs.length:Int))&&decide (0<=y/\y<(cs.length:Int)))=false:=by
     rw[<- Bool.decide_and];exact aC (by split at c1<;>omega)
    rw[ee] at this;exact this
  |lower =>
   refine fH (show decide (RW.lower.s="coin")=false by decide +kernel) ?_;walk_at"";exact BW 0 (.inl rfl) (λz=>by cases z) (by decide +kernel) λx i=>rfl
  |upper =>
   refine fH (show decide (RW.upper.s="coin")=false by decide +kernel) ?_;walk_at"";exact BW 2 (.inr rfl) (λz=>by cases z) (by decide +kernel) λx i=>rfl
theorem W7(hT:kx T)(ha:g[a]?=some (.lst (cs.map a9.d)))(hz:cs.length<=1000)(hc:g[c]?=some (.lst (rs.map Rg.d)))(hr:rs.length<=900)(ho:∀r∈rs,r.ok)(h:∀g',Ex g g'->Q (.str (p6 cs v rs)) g'):b9 T (k+4) 142 [.ref a,.int v,.ref c] g Q E:=by
 refine call_of hT.xj rfl ?_;dsimp[T5,d4,List.replicate];walk_at"";refine Y4 (k:=k) hT.h8 hT.pH hT.ue ha hz λg1 e1=>?_;walk_at"";by_cases w:wordOf cs=""
 ·refine fH (by rw[w];decide +kernel) ?_;have HC:cs.length<=9:=by
   unfold wordOf at w;split at w
   ·exact absurd w (by decide +kernel)
   ·omega
  rw[p6,aG w] at h;walk_at"";have rest:(1<=v/\v<=9)->aR (b9 T (k+3)) (.comp [0] 3 (.one 2) (.dY (.var 2)) .no (.call 140 (.cons (.var 0) (.cons (.var 2) .nil)))) [some (.ref a),some (.int v),some (.ref c)] g1 (λd g2=>cF .all [d] g2 λd g3=>d=.bl (rs.all (goodG cs))/\Ex g g3) E:=λhv=>by
   refine comp_map (c8 T _) (λZ=>∃z1 z2,Z=[some (.ref a),z1,z2]) (λi=>.bl (goodG cs (rs.getD i (.b "" 0 0)))) (l:=rs.map Rg.d) (k:=.lst c) (λg' e=>Q7 (a8 ((e1.trans e).at hc))) (by simp;omega) ⟨none,none,rfl⟩ (λi x Z g' hx e sh=>?_) (λg' e=>?_) (zk (c8 T _) (a8 (e1.at hc)) λQ q=>w_var (d:=.ref c) rfl q)
   ·obtain⟨z1,z2,rfl⟩:=sh;rw[aD,ae] at hx;obtain⟨r,jm,rfl⟩:=hx;refine E3 ?_
    try show aR _ _ _ _ _ _
    walk_at"";refine RV (k:=k+2) hT (ho r (aZ jm)) ((e1.trans e).at ha) HC λg2 e2=>?_;exact⟨by simp[List.getD,jm],e.trans e2,_,_,rfl⟩
   ·refine FJ (v:=rs.all (goodG cs)) (a8 c7) ?_ ⟨rfl,(e1.trans e).trans (Ex.snoc _ _)⟩;have:(List.range (rs.map Rg.d).length).map (λi=>D.bl (goodG cs (rs.getD i (.b "" 0 0))))=(rs.map (goodG cs)).map D.bl:=by
     rw[dX];refine WV λi=>?_;rw[aD,aD,aj];by_cases hi:i<rs.length
     ·rw[iz hi,aq hi];simp[List.getD,hi]
     ·rw[cZ (by simpa using hi),cZ (by omega)]
      rfl
    rw[this,Dk,List.all_map]
    rfl
  by_cases hv:1<=v/\v<=9
  ·rw[aG hv] at h;refine gG (aM hv.1) ?_;walk_at"";refine fH (by rw[aM hv.2];rfl) ?_;walk_at"";refine b0 (c8 T _) _ _ _ _ _ _ _ (λd g2 q=>?_) (λ_ _ z=>z) (rest hv);obtain⟨d',g3,p1,rfl,p2⟩:=q;refine⟨_,_,p1,?_⟩;walk_at"";have:=h _ p2;cases ha:rs.all (goodG cs) with
   |true =>
    rw[ha,aG rfl] at this;walk_at"";exact this
   |false =>
    rw[ha,aE (by decide)] at this;walk_at"";exact this
  ·rw[aE hv] at h;have:=h _ e1;by_cases v1:1<=v
   ·refine gG (aM v1) ?_;walk_at"";refine gG (by rw[aC (λz=>hv ⟨v1,z⟩)];rfl) ?_;walk_at"";exact this
   ·refine fH (aC v1) ?_;walk_at"";exact this
 ·refine gG (by rw[aC w];rfl) ?_;walk_at"";refine Y4 (k:=k) hT.h8 hT.pH hT.ue (e1.at ha) hz λg2 e2=>?_;rw[p6,aE w] at h;exact h _ (e1.trans e2)
end
section
variable{T:Nat->Option aN}{k d:Nat}{g g':G}{Q:KD}{E:KX}{a b c:Nat}{cs:List a9}{rs:List Rg}{v:Int}
theorem EH(hT:kx T){j:Int}(hj:0<=j/\j<=1000)(D0:f6 g d)(h:∀(v:Int) g',f6 g' d->Gr d g g'->Q (.int v) g'):b9 T (k+3) 36 [.ref d,.int j] g Q E:=by
 have h4:=hT.nQ.lf.pull;refine call_of hT.IJ rfl ?_;dsimp[zC,d4,List.replicate];walk_at"";refine d0 (k:=k+1) h4 D0 (by decide) (by decide) λr g1 _ _ D1 G1=>?_;walk_at"";refine if2 (λ_=>?_) (λ_=>?_)
 ·walk_at"";exact uJ (k:=k) h4 hT.h5 D1 λr g2 D2 G2=>h r g2 D2 (G1.trans G2)
 ·walk_at"";refine d0 (k:=k+1) h4 D1 (by omega) (by omega) λr g2 _ _ D2 G2=>?_;walk_at"";exact h _ _ D2 (G1.trans G2)
theorem Lm{s:Str}(hs:K4 s\/∃w:RW,s=w.s)(x y:Int):∃r:Rg,r.ok/\r.d=.tup [.str s,.int x,.int y]:=by
 rcases hs with h|⟨w,rfl⟩
 ·exact⟨.b s x y,h,rfl⟩
 ·exact⟨.g ⟨w,x,y⟩,trivial,rfl⟩
theorem Ox{α:Type}{l:List α}{n:Nat}:cut l (some (n:Int)) none=l.drop n:=EB
theorem Ow{α:Type}{l:List α}{n:Nat}(h:n<=l.length):cut l none (some (n:Int))=l.take n:=by
 have:¬((n:Int)<0):=by omega
 unfold cut HT.cN;simp[this]
 try rw[Nat.min_eq_left h]
def uQ:MS:=match q8.body with
 |.seq _ (.seq _ (.seq _ (.seq _ (.seq _ b))))=>b
 |x=>x
theorem Th(hT:kx T){N:Ends}(hN:N.rt=Q){s:Str}(hs:K4 s\/∃w:RW,s=w.s){x y:Int}{z6:Option D}(hc:g[c]?=some (.lst (rs.map Rg.d)))(ho:∀r∈rs,r.ok)(hl:rs.length<=4)(hd:d<c)(D0:f6 g d)(h:∀(kn:List Rg) b g',kn.length<=5->(∀r∈kn,r.ok)->g'[b]?=some (.lst (kn.map Rg.d))->g.length<=b->f6 g' d->Gr d g g'->Q (.ref b) g') :
  wpS (b9 T (k+4)) uQ N [some (.ref d),some (.ref a),some (.ref c),some (.str s),some (.int x),some (.int y),z6] g E:=by
 subst hN;have h4:=hT.nQ.lf.pull;dsimp[uQ,q8];walk_at"";rw[aj];refine d0 (k:=k+3) h4 D0 (by omega) (by omega) λr g1 r0 r1 D1 G1=>?_;obtain⟨n,rfl⟩:∃n:Nat,r=n:=⟨r.toNat,by omega⟩
 have hn:n<=rs.length:=by omega
 have c1:=G1.at (by omega) hc;have dl:=D0.lt;have l1:=G1.len;walk_at"";refine X4 (a8 c1) ?_;rw[Ow (by simpa using hn),<- List.map_take];walk_at"";refine sN ((Ex.snoc _ _).at c7) c7 (by simp;omega) ?_;walk_at"";have e3:=(Ex.snoc g1 (O.lst ((rs.take n).map Rg.d))).trans ((Ex.snoc _ (O.lst [D.tup [D.str s,D.int x,D.int y]])).trans (Ex.snoc _ (O.lst ((rs.take n).map Rg.d++[D.tup [D.str s,D.int x,D.int y]]))));refine ES (a8 (e3.at c1)) ?_;rw[Ox,<- List.map_drop];walk_at"";refine sN ((Ex.snoc _ _).at c7) c7 (by simp;omega) ?_;walk_at"";obtain⟨r,hr,Bj⟩:=Lm hs x y;have e5:=(e3.trans (Ex.snoc _ (O.lst ((rs.drop n).map Rg.d)))).trans (Ex.snoc _ (O.lst ((rs.take n).map Rg.d++[D.tup [D.str s,D.int x,D.int y]]++(rs.drop n).map Rg.d)));refine h (rs.take n++[r]++rs.drop n) _ _ (by simp;omega) (λr' jm=>?_) ?_ ?_ (e5.draw D1) (G1.trans (e5.gr d))
 ·rcases bt.mp jm with z|z
  ·rcases bt.mp z with z|z
   ·exact ho _ (hX z)
   ·rw[GD.mp z];exact hr
  ·exact ho _ (hZ z)
 ·rw[cx,cx,aU,jA,Bj];exact c7
 ·simp;omega
theorem Ru(hT:kx T)(ha:g[a]?=some (.lst (cs.map a9.d)))(hz:cs.length<=9)(hc:g[c]?=some (.lst (rs.map Rg.d)))(ho:∀r∈rs,r.ok)(hl:rs.length<=4)(Xp:d<a)(Ij:d<c)(D0:f6 g d)(h:∀(kn:List Rg) b g',kn.length<=5->(∀r∈kn,r.ok)->g'[b]?=some (.lst (kn.map Rg.d))->(b=c\/g.length<=b)->f6 g' d->Gr d g g'->Q (.ref b) g'):b9 T (k+5) 141 [.ref d,.ref a,.ref c] g Q E:=by
 have h4:=hT.nQ.lf.pull;refine call_of hT.xk rfl ?_;dsimp[q8,d4,List.replicate];walk_at"";refine d0 (k:=k+3) h4 D0 (by decide) (by decide) λr g1 r0 r1 D1 G1=>?_;walk_at"";refine if2 (λ_=>?_) (λ_=>?_)
 ·walk_at"";exact h rs c g1 (by omega) ho (G1.at (by omega) hc) (.inl rfl) D1 G1
 walk_at"";refine d0 (k:=k+3) h4 (D1.snoc _) (by decide) (by decide) λr2 g2 fP fO D2 G2=>?_;have dl:=D0.lt;have l1:=G1.len;have hw:∃s,fB [D.str "coin",D.str "lower",D.str "upper",D.str "Coin",D.str "",D.str "both"] r2=some (.str s)/\(K4 s\/∃w:RW,s=w.s):=by
  obtain⟨j,rfl⟩:∃j:Nat,r2=j:=⟨r2.toNat,by omega⟩
  have:j=0\/j=1\/j=2\/j=3\/j=4\/j=5:=by omega
  rcases this with rfl|rfl|rfl|rfl|rfl|rfl
  ·exact⟨_,rfl,.inr ⟨.gf,rfl⟩⟩
  ·exact⟨_,rfl,.inr ⟨.lower,rfl⟩⟩
  ·exact⟨_,rfl,.inr ⟨.upper,rfl⟩⟩
  ·exact⟨_,rfl,.inl (.inl rfl)⟩
  ·exact⟨_,rfl,.inl (.inr (.inl rfl))⟩
  ·exact⟨_,rfl,.inl (.inr (.inr rfl))⟩
 obtain⟨s,hs,gA⟩:=hw;have so:PyData.strOk s=true:=by
  rcases gA with z|⟨w,rfl⟩
  ·exact z.ok
  ·exact w.ok
 refine n9 (a8 (G2.at (by omega) c7)) hs ?_;have Aj:Gr d g g2:=G1.trans ((Gr.snoc _ _ _).trans G2);have a2:=Aj.at (by omega) ha;have l2:=Aj.len;walk_at"";rw[aj];refine EH (k:=k+1) hT (by omega) D2 λx g3 D3 G3=>?_;have a3:=G3.at (by omega) a2;have WL:=Aj.trans G3;walk_at"";refine d0 (k:=k+3) h4 D3 (by decide) (by decide) λr4 g4 mT nW D4 G4=>?_;have a4:=G4.at (by omega) a3;have Gs:=WL.trans G4;have rest:∀ (y:Int) g5,f6 g5 d->Gr d g g5->wpS (b9 T (k + 4)) (match q8.body with
  |.seq _ (.seq _ (.seq _ (.seq _ b)))=>b
  | x=>x) ⟨λ_ g'=>Q .bw g',Q,λ_ _=>False,λ_ _=>False⟩ [some (.ref d),some (.ref a),some (.ref c),some (.str s),some (.int x),some (.int y),none] g5 E:=λy g5 D5 G5=>by
  have a5:=G5.at (by omega) ha;have l5:=G5.len;have fin:∀(x:Int) g6,f6 g6 d->Gr d g5 g6->wpS (b9 T (k+4)) uQ ⟨λ_ g'=>Q .bw g',Q,λ_ _=>False,λ_ _=>False⟩ [some (.ref d),some (.ref a),some (.ref c),some (.str s),some (.int x),some (.int y),none] g6 E:=λx g6 D6 G6=>by
   have Ai:=G5.trans G6;refine Th (k:=k) hT rfl gA (Ai.at (by omega) hc) ho hl Ij D6 λkn b g7 q1 q2 q3 q4 D7 G7=>?_;exact h kn b g7 q1 q2 q3 (.inr (by have:=Ai.len;omega)) D7 (Ai.trans G7)
  dsimp[q8];dsimp[uQ,q8] at fin;walk_at"";refine sA (TK c7 so ?_);have e6:=Ex.snoc g5 (O.lst [D.str "lower",D.str "upper"]);walk_at"";cases hb:(decide (s="lower")||decide (s="upper")) with
  |false=>exact I9 (I9 (fin x _ (e6.draw D5) (e6.gr d)))
  |true =>
   walk_at"";refine L1 (a8 (e6.at a5)) ?_;rw[aj];walk_at"";refine if2 (λhp=>?_) (λhp=>?_)
   ·walk_at"";refine d0 (k:=k+3) h4 (e6.draw D5) (by decide) (by decide) λr7 g7 Hl Hk D7 G7=>?_;have vm:=(e6.gr d).trans G7;walk_at"";refine if2 (λ_=>?_) (λ_=>?_)
    ·walk_at"";have a7:=vm.at (by omega) a5;refine L1 (a8 a7) ?_;rw[aj];walk_at"";refine d0 (k:=k+3) h4 D7 (by omega) (by omega) λr8 g8 kI kH D8 G8=>?_;obtain⟨j,rfl⟩:∃j:Nat,r8=j:=⟨r8.toNat,by omega⟩
     have hj:j<cs.length:=by omega
     refine n9 (a8 (G8.at (by omega) a7)) (Ov hj) ?_;walk_at"";refine if2 (λ_=>?_) (λ_=>?_)
     ·walk_at"";exact U0 (R6 (.inl rfl) _) (fin _ _ D8 (vm.trans G8))
     ·walk_at"";exact U0 (R6 (.inr rfl) _) (fin _ _ D8 (vm.trans G8))
    ·exact fin _ _ D7 vm
   ·exact I9 (fin _ _ (e6.draw D5) (e6.gr d))
 dsimp[q8] at rest;walk_at"";refine if2 (λ_=>?_) (λ_=>?_)
 ·exact w_var (d:=.int x) rfl (rest x g4 D4 Gs)
 ·walk_at"";rw[aj];refine EH (k:=k+1) hT (by omega) D4 λy g5 D5 G5=>?_;exact rest y g5 D5 (Gs.trans G5)
theorem Rq(hT:kx T)(D0:f6 g d)(h:∀(v:Int) g',f6 g' d->Gr d g g'->Q (.int v) g'):b9 T (k+3) 143 [.ref d,.int v] g Q E:=by
 have h4:=hT.nQ.lf.pull;refine call_of hT.xi rfl ?_;dsimp[T7,d4,List.replicate];walk_at"";refine d0 (k:=k+1) h4 D0 (by decide) (by decide) λr g1 r0 r1 D1 G1=>?_;walk_at"";refine if2 (λ_=>?_) (λ_=>?_)
 ·walk_at"";exact h v g1 D1 G1
 walk_at"";refine uJ (k:=k) h4 hT.h5 D1 λf g2 D2 G2=>?_;walk_at"";refine d0 (k:=k+1) h4 (D2.snoc _) (by decide) (by decide) λr3 g3 fq fG D3 G3=>?_;have dl:=D2.lt;obtain⟨x,hx,hm⟩:=p8 (l:=[0,10,9,-1,f].map D.int) fq (by simpa using fG);obtain⟨n,_,rfl⟩:=aT.mp hm;refine n9 (a8 (G3.at (by omega) c7)) hx ?_;walk_at"";exact h n g3 D3 (G1.trans (G2.trans ((Gr.snoc _ _ _).trans G3)))
def Rg.py(r:Rg):PyData:=.tuple [.str r.s,.int r.x,.int r.y]
theorem yu{n:Nat}{l:List D}{ps:List PyData}(h:d5 g a=some l)(hm:l.mapM (rd g n)=some ps):rd g (n+1) (.ref a)=some (.list ps):=by
 simp only[rd];rw[h];dsimp only;rw[hm]
 rfl
theorem CT{α:Type}{f:D->Option PyData}{p:α->D}{q:α->PyData}(h:∀x,f (p x)=some (q x))(l:List α):(l.map p).mapM f=some (l.map q):=by
 induction l with
 |nil=>rfl
 |cons x r ih =>
  rw[aU,mm,h x];simp[ih]
theorem Q4{α:Type}{q:α->PyData}:∀(l:List α),(∀x∈l,(q x).canLay0=true)->PyData.canLayAll0 (l.map q)=true
 |[],_=>rfl
 |x::r,h=>by simp[PyData.canLayAll0,h x (by simp),Q4 r λy hy=>h y (by simp[hy])]
theorem yN{α:Type}{q:α->PyData}:∀(l:List α),(∀x∈l,PyData.eqv (q x) (q x)=true)->PyData.eqvAll (l.map q) (l.map q)=true
 |[],_=>rfl
 |x::r,h=>by simp[PyData.eqvAll,h x (by simp),yN r λy hy=>h y (by simp[hy])]
theorem Tz{a' b' p q:Nat}{kb:Bool->Prop}(h1:g[p]?=some (.lst [.ref a,.ref b]))(h2:g[q]?=some (.lst [.ref a',.ref b']))(ha:g[a]?=some (.lst (cs.map a9.d)))(hb:g[b]?=some (.lst (rs.map Rg.d)))(jL:g[a']?=some (.lst (cs.map a9.d)))(iW:g[b']?=some (.lst (rs.map Rg.d)))(ho:∀r∈rs,r.ok)(h:kb true):pI g (.ref p) (.ref q) kb:=by
 have r1:∀{x},g[x]?=some (.lst (cs.map a9.d))->rd g 5 (.ref x)=some (.list (cs.map a9.py)):=λhx=>yu (a8 hx) (CT (λc=>VR (n:=2) c) cs);have r2:∀{x},g[x]?=some (.lst (rs.map Rg.d))->rd g 5 (.ref x)=some (.list (rs.map Rg.py)):=λhx=>yu (a8 hx) (CT (λr=>by simp only[Rg.d,Rg.py,rd,List.mapM_cons,List.mapM_nil];rfl) rs);have rr:∀{z x y},g[z]?=some (.lst [.ref x,.ref y])->g[x]?=some (.lst (cs.map a9.d))->g[y]?=some (.lst (rs.map Rg.d))->rd g 6 (.ref z)=some (.list [.list (cs.map a9.py),.list (rs.map Rg.py)]):=λhz hx hy=>yu (a8 hz) (by simp[List.mapM_cons,r1 hx,r2 hy]);have ly:(PyData.list [.list (cs.map a9.py),.list (rs.map Rg.py)]).canLay0=true:=by
  simp only[PyData.canLay0,PyData.canLayAll0,Q4 cs λc _=>RU c,Q4 (q:=Rg.py) rs λr hr=>(by simp only[Rg.py,PyData.canLay0,PyData.canLayAll0,Rg.AD (ho r hr)];rfl),Bool.and_true]
 refine⟨_,.inr (.inr (.inr ⟨_,_,rr h1 ha hb,rr h2 jL iW,ly,ly,rfl⟩)),?_⟩;have:PyData.eqv (PyData.list [.list (cs.map a9.py),.list (rs.map Rg.py)]) (PyData.list [.list (cs.map a9.py),.list (rs.map Rg.py)])=true:=by
  simp only[PyData.eqv,PyData.eqvAll,yN cs λc _=>WH c,yN (q:=Rg.py) rs λr _=>(by simp[Rg.py,PyData.eqv,PyData.eqvAll]),Bool.and_true]
 rw[this];exact h
def J8:MS:=match X8.body with
 |.seq _ (.seq (.cH _ _ (.seq _ (.seq _ (.seq _ (.seq _ (.seq (.cH _ _ b) _)))))) _)=>b
 |x=>x
theorem UD(hT:kx T){N:Ends}{way:Nat}(hw:way<13){z0 z1 z2 z3 z8 z9:Option D}(ha:g[a]?=some (.lst (cs.map a9.d)))(hz:cs.length<=11)(hc:g[c]?=some (.lst (rs.map Rg.d)))(hr:rs.length<=5)(ho:∀r∈rs,r.ok)(h:∀g' z8 z9,Ex g g'->N.nx [z0,z1,z2,z3,some (.int v),some (.ref a),some (.ref c),some (.int way),z8,z9] g') :
  wpS (b9 T (k+13)) J8 N [z0,z1,z2,z3,some (.int v),some (.ref a),some (.ref c),some (.int way),z8,z9] g E:=by
 have fin:∀g1,Ex g g1->wpS (b9 T (k+13)) (match J8 with|.seq _ b=>b|x=>x) N [z0,z1,z2,z3,some (.int v),some (.ref a),some (.ref c),some (.int way),some (.str (p6 cs (vW way v) rs)),z9] g1 E:=λg1 e1=>by
  dsimp[J8,X8];walk_at"";refine uC (a8 (e1.at ha)) ?_;have x2:=Ex.snoc g1 (O.lst (cs.map a9.d));walk_at"";refine uC (a8 (x2.at (e1.at hc))) ?_;have x3:=Ex.snoc (g1++[O.lst (cs.map a9.d)]) (O.lst (rs.map Rg.d));have x4:=Ex.snoc ((g1++[O.lst (cs.map a9.d)])++[O.lst (rs.map Rg.d)]) (O.lst [.ref g1.length,.ref (g1++[O.lst (cs.map a9.d)]).length]);have p1:=x4.at (x3.at (c7 (g:=g1) (o:=O.lst (cs.map a9.d))));have p2:=x4.at (c7 (g:=g1++[O.lst (cs.map a9.d)]) (o:=O.lst (rs.map Rg.d)));have p3:=c7 (g:=(g1++[O.lst (cs.map a9.d)])++[O.lst (rs.map Rg.d)]) (o:=O.lst [.ref g1.length,.ref (g1++[O.lst (cs.map a9.d)]).length]);have e4:=((e1.trans x2).trans x3).trans x4;walk_at"";generalize ((g1++[O.lst (cs.map a9.d)])++[O.lst (rs.map Rg.d)])++[O.lst [.ref g1.length,.ref (g1++[O.lst (cs.map a9.d)]).length]]=g4 at *;generalize ((g1++[O.lst (cs.map a9.d)])++[O.lst (rs.map Rg.d)]).length=c4 at *;generalize (g1++[O.lst (cs.map a9.d)]).length=b4 at *;generalize g1.length=a4 at *;have xP:∀g5,Ex g4 g5->wpS (b9 T (k+13)) (match J8 with|.seq _ (.seq _ (.seq _ b))=>b|x=>x) N [z0,z1,z2,z3,some (.int v),some (.ref a),some (.ref c),some (.int way),some (.str (p6 cs (vW way v) rs)),some (.ref c4)] g5 E:=λg5 e5=>by
   dsimp[J8,X8];walk_at"";have x6:=Ex.snoc g5 (O.lst [.ref a,.ref c]);have e6:=e5.trans x6;refine Aa (Tz (e6.at p3) c7 (e6.at p1) (e6.at p2) (e6.at (e4.at ha)) (e6.at (e4.at hc)) ho ?_);walk_at"";exact h _ _ _ (e4.trans e6)
  dsimp[J8,X8] at xP;by_cases hd:p6 cs (vW way v) rs=""
  ·refine fH (by rw[hd];decide +kernel) ?_;exact I9 (xP g4 (Ex.refl _))
  ·refine gG (by rw[aC hd];rfl) ?_;walk_at"";refine Vu (k:=k+1) hT hw p1 (by omega) p2 (by omega) ho hd λg5 e5=>?_;walk_at"";refine fH (by simp) ?_;exact xP g5 e5
 dsimp[J8,X8] at fin ⊢;walk_at"";by_cases h8:way=8
 ·subst h8;refine gG (by decide) ?_;walk_at"";exact W7 (k:=k+9) (v:=1) hT ha (by omega) hc (by omega) ho λg1 e1=>fin g1 e1
 ·refine fH (aC (by omega)) ?_;walk_at"";refine W7 (k:=k+9) (v:=v) hT ha (by omega) hc (by omega) ho λg1 e1=>?_;have:=fin g1 e1;rw[show vW way v=v from aE h8] at this;exact this
theorem RS(hT:kx T){ns:List Int}:b9 T (k+14) 11 [.ref 0] [.mJ (ns.map .int)] (λd _=>d=.bl true) iP:=by
 have h4:=hT.nQ.lf.pull;refine call_of hT.IS rfl ?_;dsimp[X8,d4,List.replicate];walk_at"";refine Vx (k:=k+12) hT.h3 (a:=0) (ns:=ns) rfl λd g D1 _ _=>?_;walk_at"";refine DP (n:=2) (by decide) (λi Z g=>f6 g d/\∃z2 z3 z4 z5 z6 z7 z8 z9,Z=[some (.ref 0),some (.ref d),z2,z3,z4,z5,z6,z7,z8,z9]) ⟨D1,none,none,none,none,none,none,none,none,rfl⟩ (λi Z g hi p=>?_) (λZ g p=>?_)
 ·obtain⟨D2,z2,z3,z4,z5,z6,z7,z8,z9,rfl⟩:=p
  try show wpS _ _ _ _ _ _
  have dl:=D2.lt;walk_at"";refine UU (k:=k+9) hT.nQ.lf ⟨by decide,by decide⟩ D2 λcs a v g1 hl hG ha Xr v1 v2 D3 G3=>?_;refine C4 rfl ?_
  try show wpS _ _ _ _ _ _
  have hz:cs.length<=9:=by omega
  have hB:∀c∈cs,CB c:=λc hc=>⟨(hG c hc).l8,(hG c hc).u8⟩
  walk_at"";refine QX (k:=k+9) h4 hT.h5 hT.rQ hT.xc ha hB hz (by omega) D3 λgB b g2 Xv Bf hb Xq D4 G4=>?_;have a4:=G4.at (by omega) ha;have l3:=G3.len;have l4:=G4.len;walk_at"";refine SF (k:=k+10) hT.nQ a4 hz (by omega) D4 λrs c g3 hr hR hc jJ D5 G5=>?_;have a5:=G5.at (by omega) a4;have b5:=G5.at (by omega) hb;walk_at"";refine Ru (k:=k+8) (rs:=rs.map Rg.g) hT a5 hz (by rw[dX];exact hc) (λr hr=>?_) (by simpa using hr) (by omega) (by omega) D5 λkn e g4 jm ho he nk D6 G6=>?_
  ·obtain⟨r',_,rfl⟩:=aT.mp hr;exact trivial
  have b6:=G6.at (by omega) b5;have l5:=G5.len;walk_at"";refine Rq (k:=k+10) hT D6 λv' g5 D7 G7=>?_;have b7:=G7.at (by omega) b6;have e7:=G7.at (by omega) he;walk_at"";refine DP (n:=13) (by decide) (λ_ Z g=>Ex g5 g/\∃z7 z8 z9,Z=[some (.ref 0),some (.ref d),some (.int i),some (.ref a),some (.int v'),some (.ref b),some (.ref e),z7,z8,z9]) ⟨Ex.refl _,z7,z8,z9,rfl⟩ (λway Z g6 hw p=>?_) (λZ g6 p=>?_)
  ·obtain⟨e8,z7,z8,z9,rfl⟩:=p;refine E3 ?_;show wpS (b9 T (k+13)) J8 _ _ _ _;exact UD (k:=k) (v:=v') hT hw (e8.at b7) Bf (e8.at e7) jm ho λg7 z8 z9 e9=>⟨e8.trans e9,_,_,_,rfl⟩
  ·obtain⟨e8,z7,z8,z9,rfl⟩:=p
   try show wpS _ _ _ _ _ _
   walk_at"";exact⟨e8.draw D7,_,_,_,_,_,_,_,_,rfl⟩
 ·obtain⟨D2,z2,z3,z4,z5,z6,z7,z8,z9,rfl⟩:=p
  try show wpS _ _ _ _ _ _
  walk_at""
  rfl
end
end M

namespace Lk
open PySem L2 M
def top(i:Nat):Stmt:=PySem.Challenge.pw_trussel_k11_what_asking_refuses.main.body.getD i (.Pass ⟨0,0,0,0⟩)
def Ou:Stmt->List Stmt
 |.ClassDef (body:=b) ..=>b
 |_=>[]
def Cv(i j:Nat):Stmt:=(Ou (top i)).getD j (.Pass ⟨0,0,0,0⟩)
def F:List RF:=[⟨38,"is_number",["thing"],1,15,Y0⟩,⟨1,"number_from",["number","least","most"],3,16,O6⟩,⟨2,"good_marks",["marks","least","spot"],1,17,B3⟩,⟨15,"within",["one","other"],2,18,Fn⟩,⟨12,"good_coin",["coin","lower","lower_marks","upper","upper_marks","year","good_lower","good_upper"],1,25,u4⟩,⟨39,"check_coin",["coin"],1,26,T4⟩,⟨18,"check_coins",["coins","coin"],1,27,O9⟩,⟨83,"check_place",["coins","place"],2,28,QK⟩,⟨40,"check_side",["side"],1,29,L0⟩,⟨19,"die_field",["side"],1,30,Y2⟩,⟨74,"places_of",["coins","word","thing","field"],3,31,N9⟩,⟨75,"check_die",["coins","side","die"],3,32,TV⟩,⟨20,"dies_of",["coins","side","field"],2,33,Fm⟩,⟨42,"check_anvils",["anvils"],1,38,E7⟩,⟨88,"good_rule",["coins","rule","word","one","other"],2,39,O1⟩,⟨89,"check_rules",["coins","rules","at","rule"],2,40,O8⟩,⟨90,"stand_of",["places"],1,41,CS⟩,⟨91,"with_coin",["stand","place"],2,42,DF⟩,⟨92,"more_worn",["one","other","side","field"],2,43,DE⟩,⟨93,"later",["one","other"],2,44,EG⟩,⟨94,"worn_stands",["coins"],1,45,En⟩,⟨95,"later_stands",["coins"],1,46,X9⟩,⟨96,"die_stands",["coins"],1,47,DZ⟩,⟨97,"needed_stands",["coins","rules","needed","word","one","other","first","place"],2,48,W0⟩,⟨98,"check_asked",["coins","anvils","rules"],3,50,P0⟩,⟨99,"bounds_of",["coins","anvils","rules"],3,51,Y3⟩,⟨100,"dies_in_use",["bounds","stand","place","struck","left"],3,52,Ea⟩,⟨101,"next_fault",["bounds","stand","place"],3,53,Eb⟩,⟨102,"places_fault",["many","order","at","place"],2,54,Rk⟩,⟨103,"fault_of",["bounds","order","fault","stand","at","place","word"],2,55,RX⟩,⟨104,"order_fault",["coins","anvils","rules","order"],4,56,O5⟩,⟨114,"check_stand",["bounds","stand"],2,58,QL⟩,⟨115,"follows",["bounds","stand","place"],3,59,RY⟩,⟨116,"followers",["bounds","stand"],2,60,UY⟩,⟨117,"reached_stands",["bounds","led_to","told","stand","place"],1,61,RG⟩,⟨118,"may_follow",["coins","anvils","rules","stand","place","bounds"],5,62,T2⟩,⟨119,"following",["coins","anvils","rules","stand","bounds"],4,63,T3⟩,⟨120,"reached",["coins","anvils","rules"],3,64,zc⟩,⟨121,"ways_on",["bounds","ways","stand"],1,66,OP⟩,⟨122,"step_on",["bounds","ways","stand","number","choices","left","at"],4,67,OO⟩,⟨123,"numbered_order",["bounds","ways","number","order","stand","left","place"],3,68,RE⟩,⟨124,"first_order",["bounds","ways"],1,69,QN⟩,⟨125,"least_order",["coins","anvils","rules"],3,70,O7⟩,⟨126,"how_many",["coins","anvils","rules"],3,71,za⟩,⟨127,"order_of",["coins","anvils","rules","number","bounds","ways"],4,72,X7⟩,⟨128,"number_of",["coins","anvils","rules","order","bounds","ways","number","stand","place","lesser"],4,73,T1⟩,⟨129,"shown_paper",["bounds","stands"],1,75,QO⟩,⟨130,"rising_stands",["bounds","stands","least","stand"],2,76,Ry⟩,⟨131,"led_out_of",["bounds","stands","known","stand","place"],2,77,TY⟩,⟨132,"paper_of",["coins","anvils","rules"],3,78,zb⟩,⟨133,"bars",["coins","anvils","rules","stands","bounds"],4,79,zA⟩,⟨134,"fewest_of",["coins","rules","paper","count","bounds","order"],2,81,TX⟩,⟨135,"fewest",["coins","rules","told"],2,82,yS⟩,⟨136,"check_thing",["coins","word","thing"],3,84,QM⟩,⟨137,"check_pair",["coins","word","one","other"],4,85,UX⟩,⟨138,"why_of",["coins","anvils","rules","word","one","other","one_ahead","other_ahead","one_order","other_order"],6,86,uK⟩,⟨139,"told_of",["coins","anvils","rules","word","one","other"],6,87,yU⟩,⟨3,"_law_open",["_law_script"],1,89,uD⟩,⟨4,"_law_pull",["_law_draw","_law_total_of","_law_cell","_law_got","_law_seed"],2,90,u3⟩,⟨5,"_law_far",["_law_draw","_law_number"],1,91,Y1⟩,⟨36,"_law_near",["_law_draw","_law_total_of"],2,92,zC⟩,⟨21,"_law_order_of",["_law_draw","_law_numbers","_law_left","_law_found","_law_step"],2,93,M8⟩,⟨8,"_law_marks_ok",["_law_marks"],1,94,G0⟩,⟨13,"_law_coin_ok",["_law_coin"],1,95,C7⟩,⟨22,"_law_any_coin",["_law_draw","_law_menu","_law_lower","_law_upper","_law_year"],1,96,T6⟩,⟨23,"_law_seated",["_law_draw","_law_seats","_law_fresh","_law_anvils"],4,97,B2⟩,⟨24,"_law_struck",["_law_draw","_law_size","_law_anvils","_law_seats","_law_fresh","_law_worn","_law_year","_law_step","_law_wear","_law_shift","_law_found","_law_k","_law_keys","_law_key","_law_spot","_law_named","_law_told_year"],3,98,B1⟩,⟨25,"_law_opened",["_law_draw","_law_size","_law_dies","_law_row","_law_held","_law_found","_law_k","_law_year"],2,99,va⟩,⟨26,"_law_list",["_law_draw","_law_most","_law_size","_law_anvils","_law_way","_law_found","_law_at","_law_coin","_law_other"],2,100,K9⟩,⟨105,"_law_rule",["_law_draw","_law_coins","_law_word","_law_some","_law_at"],2,101,pX⟩,⟨106,"_law_rules",["_law_draw","_law_coins","_law_found","_law_k","_law_rule_here"],2,102,ym⟩,⟨140,"_law_rule_ok",["_law_coins","_law_rule_here","_law_word","_law_one","_law_other","_law_dies"],2,103,yT⟩,⟨14,"_law_bent_coin",["_law_draw","_law_coin","_law_way","_law_lower","_law_lower_marks","_law_upper","_law_upper_marks","_law_year","_law_odd","_law_number"],2,104,K0⟩,⟨27,"_law_bent_list",["_law_draw","_law_coins","_law_at"],2,105,C8⟩,⟨28,"_law_list_word",["_law_coins"],1,106,O0⟩,⟨141,"_law_bent_rules",["_law_draw","_law_coins","_law_rules_here","_law_word","_law_one","_law_other","_law_at"],3,107,q8⟩,⟨142,"_law_asked_word",["_law_coins","_law_anvils","_law_rules_here"],3,108,T5⟩,⟨143,"_law_any_anvils",["_law_draw","_law_anvils"],2,109,T7⟩,⟨144,"_law_door",["_law_way","_law_coins","_law_anvils","_law_rules_here"],4,110,zB⟩,⟨145,"_law_word_of",["_law_way","_law_coins","_law_anvils","_law_rules_here"],4,111,yV⟩,⟨11,"law",["_law_script","_law_draw","_law_turn","_law_some","_law_anvils","_law_coins","_law_rules_here","_law_way","_law_due","_law_handed"],1,112,X8⟩]
def Ms:List RM:=[⟨113,"Bounds","__init__","Bounds.__init__",["self","coins","anvils","rules"],4,49,0,Em⟩]
def con:List (Str×D):=[("LAST_SPOT",.int 7),("MOST_COINS",.int 9),("LAST_DIE",.int 99),("LAST_YEAR",.int 9999),("SIDES",.tup [(.str "lower"),(.str "upper")]),("MOST_ANVILS",.int 9),("RULE_WORDS",.tup [(.str "coin"),(.str "lower"),(.str "upper")]),("YEAR_FIELD",.int 4)]
def gd:List (Str×List D):=[("DIE_FIELDS",[.tup [.str "lower",.int 0],.tup [.str "upper",.int 2]])]
def exc:List Str:=["BadAnvils","BadCoin","BadNumber","BadRule","BadSide","BadStand","NoDie","NoOrder","NoPlace","SameOne","TooMany"]
def c0:f7:=⟨[],[],true,F.map λr=>(r.nm,r.id),con,["len","enumerate","list","tuple","isinstance","all","range","int","bool","max","min","sorted","set","any","sum","reversed"],exc,gd,[("Bounds",113)],Ms.map λr=>(r.nm,r.cl,r.id),[("size","Bounds"),("full","Bounds"),("room","Bounds"),("worn_by_place","Bounds"),("later_by_place","Bounds"),("lower_dies","Bounds"),("needed_by_place","Bounds")],true,true⟩
noncomputable abbrev T:Nat->Option aN:=pR F Ms
theorem tx:jX c0 F Ms top Cv:=by
 refine⟨rfl,rfl,by decide +kernel,by decide +kernel,by decide +kernel,by decide +kernel,?_,?_,?_,?_⟩
 all_goals
  repeat first
   |exact BF.nil
   |exact BM.nil
   |exact YF.nil
   |exact YM.nil
   |refine YF.cons (by kernel_rfl) ?_
   |refine YM.cons (by kernel_rfl) ?_
   |refine BF.cons (λ_ _ _ _ _ _=>(by(repeat refine Aw λ_=>?_);exact Av rfl)) ?_
   |refine BM.cons (λ_ _ _ _ _ _=>(by(repeat refine Aw λ_=>?_);exact Av rfl)) ?_
inductive pK:List DictEntry->List (Str×V)->Prop
 |nil:pK [] []
 |cons {h:Int} {x:Str} {t:Tok} {u:Value} {v:V} {es:List DictEntry} {vs:List (Str×V)} (r:RelV v u) (q:pK es vs):pK (⟨h,.str x t,u⟩::es) ((x,v)::vs)
theorem pK.find{es vs}(x:Str)(h:pK es vs):B0 (vs.lookup x) (findBy Value.isStrOf es.toArray x):=by
 induction h with
 |nil=>trivial
 |cons r q ih =>
  rename_i h y t u v es vs;unfold findBy at ih ⊢;rw[List.find?_toArray] at ih ⊢;rw[gE,bW];by_cases e:x=y
  ·rw[show(x==y)=true from by simp[e],show Value.isStrOf x (.str y t)=true from by simp[Value.isStrOf,e]];exact r
  ·rw[show(x==y)=false from by simpa using e,show Value.isStrOf x (.str y t)=false from by simp[Value.isStrOf];exact λz=>e (z.symm)];exact ih
theorem all_mk{l:PySem.W.OpenLaw}{w:World}{K:PySem.W.Frag}{h:Heap}{mg:Str->Option Value}{fa:Addr}{yc yb uh:Addr}{t0 t1 t2 t3 sm sk t5 sj si sg t7 ny nv nu nt:Tok}{xX:Array (Option Value)}{xZ:Nat}{xW:Array (Option Value)}{xY:Nat}{Ja:Nat}{lM lL:Int}(X:K.In h)(G:h.Ns mainGlobals mg)(Ie:mg "law"=some (.ref fa))(I:jY K c0 F Ms top Cv)(e0:PySem.W.nsIn K mainGlobals "LAST_SPOT"=some (some (Value.int 7 t0)))(e1:PySem.W.nsIn K mainGlobals "MOST_COINS"=some (some (Value.int 9 t1)))(e2:PySem.W.nsIn K mainGlobals "LAST_DIE"=some (some (Value.int 99 t2)))(e3:PySem.W.nsIn K mainGlobals "LAST_YEAR"=some (some (Value.int 9999 t3)))(e4:PySem.W.nsIn K mainGlobals "SIDES"=some (some (.ref yc)))(JF:K.lookup yc=some ⟨.type "tuple",none,.seq #[Value.str "lower" sm,Value.str "upper" sk] xZ,xX⟩)(e5:PySem.W.nsIn K mainGlobals "MOST_ANVILS"=some (some (Value.int 9 t5)))(e6:PySem.W.nsIn K mainGlobals "RULE_WORDS"=some (some (.ref yb)))(JE:K.lookup yb=some ⟨.type "tuple",none,.seq #[Value.str "coin" sj,Value.str "lower" si,Value.str "upper" sg] xY,xW⟩)(e7:PySem.W.nsIn K mainGlobals "YEAR_FIELD"=some (some (Value.int 4 t7)))(g0:PySem.W.nsIn K mainGlobals "DIE_FIELDS"=some (some (.ref uh)))(Jc:K.lookup uh=some ⟨.type "dict",none,.dict #[⟨lM,Value.str "lower" ny,Value.int 0 nv⟩,⟨lL,Value.str "upper" nu,Value.int 2 nt⟩] Ja,#[]⟩)(nY:lM=PyData.keyHash w.params "lower")(nX:lL=PyData.keyHash w.params "upper")(IZ:(uh==sysModules)=false)
  : ∃fd:FuncData,(∀(s:Shared) (v:Value),BindsTo s fd ⟨[v],[]⟩ [("_law_script",v)])/\∀base:Heap,K.In base->base.Ns mainGlobals mg->gg l.prog w K mg base (gI l.prog w) 80 fa fd ["_law_script"] (mS exc K 1 (b9 T 40 11)):=by
 have A:lQ w K mg c0 T:=by
  refine Oa I tx X G (λx d hx=>?_) (λx kvs hx=>?_)
  ·have hm:=aI hx;simp only[c0,con,List.mem_cons,List.mem_nil_iff,or_false] at hm;rcases hm with z|z|z|z|z|z|z|z
   ·cases z;exact⟨(.int 7),_,bE X G e0,⟨_,rfl⟩,λ_ _=>.int _⟩
   ·cases z;exact⟨(.int 9),_,bE X G e1,⟨_,rfl⟩,λ_ _=>.int _⟩
   ·cases z;exact⟨(.int 99),_,bE X G e2,⟨_,rfl⟩,λ_ _=>.int _⟩
   ·cases z;exact⟨(.int 9999),_,bE X G e3,⟨_,rfl⟩,λ_ _=>.int _⟩
   ·cases z;exact⟨.ref yc,_,bE X G e4,rfl,λ_ _=>.tup (vs:=[.str "lower",.str "upper"]) (.inr ⟨_,_,_,JF,rfl,rfl,rfl,(by show 2<=sizeLine;decide),.cons ⟨_,rfl⟩ (.cons ⟨_,rfl⟩ (.nil))⟩) (.cons (.str _) (.cons (.str _) (.nil)))⟩
   ·cases z;exact⟨(.int 9),_,bE X G e5,⟨_,rfl⟩,λ_ _=>.int _⟩
   ·cases z;exact⟨.ref yb,_,bE X G e6,rfl,λ_ _=>.tup (vs:=[.str "coin",.str "lower",.str "upper"]) (.inr ⟨_,_,_,JE,rfl,rfl,rfl,(by show 3<=sizeLine;decide),.cons ⟨_,rfl⟩ (.cons ⟨_,rfl⟩ (.cons ⟨_,rfl⟩ (.nil)))⟩) (.cons (.str _) (.cons (.str _) (.cons (.str _) (.nil))))⟩
   ·cases z;exact⟨(.int 4),_,bE X G e7,⟨_,rfl⟩,λ_ _=>.int _⟩
  ·have hm:=aI hx;simp only[c0,gd,List.mem_cons,List.mem_nil_iff,or_false] at hm;have z:=hm
   ·cases z;have er:pK [⟨lM,Value.str "lower" ny,Value.int 0 nv⟩,⟨lL,Value.str "upper" nu,Value.int 2 nt⟩] [("lower",.int 0),("upper",.int 2)]:=.cons (v:=.int 0) ⟨_,rfl⟩ (.cons (v:=.int 2) ⟨_,rfl⟩ (.nil));exact⟨uh,_,bE X G g0,⟨_,_,Jc,⟨⟨_,_,rfl,nY⟩,⟨⟨_,_,rfl,nX⟩,True.intro⟩⟩,IZ,λx=>er.find x⟩,.cons (λ_ _=>.int _) (.cons (λ_ _=>.int _) (.nil))⟩
 obtain⟨f,fd,O,a,t⟩:=FA I tx _ (aZ (i:=80) rfl);cases Ie.symm.trans (bE X G a);obtain⟨oc,od,kV,doc,pm,an,eM,ct,kJ,rfl,lk,kq⟩:=O.fn.ex;exact⟨_,λs v=>.of_eq rfl,λbase lA rV=>L' lA rV A 40 11 _ _ fa _ rfl O⟩
theorem walk{l:PySem.W.OpenLaw}{q:Program}{loose:List Str}{XP:(Str->Option Value)->Heap->Prop}{YP:World->Heap->Prop}{d:DefRec}{K:Params->PySem.W.Frag}(hn:l.most=some 63)(rD:d.params.defaults=[])(hY:∀(w:World) (h:Heap),YP w h->(K w.params).In h)(F:∀ (w:World) (mg:Str->Option Value) (fa:Addr) (h:Heap),(K w.params).In h->h.Ns mainGlobals mg->mg d.name=some (.ref fa) ->
   ∃ fd:FuncData,(∀ (s:Shared) (u:Value),BindsTo s fd ⟨[u],[]⟩ [("_law_script",u)])/\∀ base:Heap,(K w.params).In base->base.Ns mainGlobals mg->gg l.prog w (K w.params) mg base (gI l.prog w) 80 fa fd ["_law_script"] (mS exc (K w.params) 1 (b9 T 40 11))) :
  PySem.W.WalkO q loose XP YP l.row.toRowW d [] (λf vs=>PySem.call f vs) :=
 L2.Wt (n:=63) (k:=80) (x:="_law_script") (CX:=λw=>gI l.prog w) (sp:=λw=>mS exc (K w.params) 1 (b9 T 40 11)) hn (by decide) rD ⟨rfl,by decide,by decide⟩ hY F (λw H a ns hl hO hS=>Mu hO hS (RS (k:=26) ⟨⟨⟨rfl,rfl⟩,rfl,rfl,⟨rfl,rfl⟩,⟨rfl,rfl⟩,rfl,rfl,rfl,rfl,rfl,rfl,rfl,rfl,rfl,rfl,rfl,rfl,rfl,rfl,rfl,rfl⟩,⟨⟨rfl,rfl,rfl,rfl,rfl,rfl,rfl⟩,rfl,rfl⟩,rfl,rfl,rfl,rfl,rfl,rfl,rfl,rfl,rfl,rfl,rfl,rfl,rfl,rfl,rfl,rfl,rfl,rfl,rfl,rfl,rfl,rfl,rfl,rfl,rfl,rfl,rfl,rfl,rfl,rfl,rfl⟩)) λ_ _ _ _ _ ⟨_,_,_,_,_,_,_,z⟩=>z
end Lk
open PySem PySem.W PyProof.Rows
set_option maxRecDepth 100000 in
set_option maxHeartbeats 0 in
theorem PySem.Challenge.cw_trussel_k11_what_asking_refuses_holds : PySem.Challenge.rw_trussel_k11_what_asking_refuses.Holds := by
 w_on;o_law;k_head;(case hw=>w_witness2)
 k_fill
 refine Lk.walk (l:=PySem.Challenge.rw_trussel_k11_what_asking_refuses) rfl rfl (fun w h Y=>PySem.W.kIn_of Y) ?F
 case F =>
  intro w mg fa h KX G hmg
  refine' Lk.all_mk KX G hmg ⟨?zz1,?zz2,?zz3,?zz4,?zz5,?zz6,?zz7⟩ ?_ ?_ ?_ ?_ ?_ ?_ ?_ ?_ ?_ ?_ ?_ ?_ ?_ ?_ ?_
  (case zz1=>repeat' first | (with_reducible show _=_;k_is) | exact M.PF.nil | apply M.PF.cons)
  (case zz2=>repeat' first | (with_reducible show _=_;k_is) | exact M.PM.nil | apply M.PM.cons)
  (case zz3=>repeat' first | (with_reducible show _=_;k_is) | exact M.PC.nil | apply M.PC.cons)
  (case zz4=>repeat' first | (with_reducible show _=_;k_is) | exact M.PA.nil | apply M.PA.cons)
  (case zz5=>repeat' first | (with_reducible show _=_;k_is) | exact M.PB.nil | apply M.PB.cons)
  (case zz6=>repeat' first | (with_reducible show _=_;first | (with_reducible show PySem.W.excIn _ _ _ _=true;k_exc) | k_is) | exact M.PX.nil | apply M.PX.cons)
  (case zz7=>kernel_rfl)
  all_goals try (with_reducible show _=_;k_is)
  all_goals try ((with_reducible show _=_);rfl)
#print axioms PySem.Challenge.cw_trussel_k11_what_asking_refuses_holds
