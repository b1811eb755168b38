import PyProof.Rows.All
import Wide.All
import OpenK.AllK
import Wide.FinOn
import Lean
import PyProof.EqAt
import PyProof.EqKinds
import PyProof.TupleCall
import PySem.Challenge.RW_trussel_k42_facts_told
set_option Elab.async false
set_option linter.all false
set_option maxRecDepth 100000
set_option maxHeartbeats 4000000
set_option genInjectivity false
set_option bootstrap.genMatcherCode false
set_option genSizeOf false
local macro_rules|`(def $i:declId $s:optDeclSig $v:declVal)=>`(noncomputable def $i:declId $s:optDeclSig $v:declVal)
structure PySem.W.Fast:Prop where(tw2220985214029160580 tw2027870750124338859 tw377280160448596262 tw9801869075485510815 tw12424688122334478951 tw15273826918041758687 tw5147954332960057165 tw1884574481832947789 tw14447538413599050826 tw5998761870945930376 tw3854947824695262658 tw5278359661108568496 tw5507492274622887206 tw14888326248622086186 tw720004706651471751 tw13030819169452958558 tw11209184581765735497 tw5030951321417830860 tw748160180077260113 tw5427927211170867629 tw2199025963128585356 tw7946200674438019071 tw2557465893058230359 tw588428311967108803 tw12289946766012926516 tw14806557850474630883 tw3439656970392911621 tw18180436809492831161 tw17591660038564590733 tw7821498799224237405 tw893104888785912088 tw9963135953768930944 tw4530711195721079928 tw4269639933101530044 tw15840978704792945040 tw6584565198018767935 tw2827171619543673586 tw5541666012861364244 tw15354038545183730568 tw8308456206856682222 tw625270885861897442 tw15853236760245486148 tw14561466731926068894 tw6612430099148844405 tw2436721822082053997 tw2381668685132364512 tw7575607697953210653 tw14549284501536338629 tw13686865452303645374 tw14893203508571726223 tw18033918753977681810 tw1883031808466112435 tw6566312967227586539 tw14934521537918566135 tw6981347370005224605 tw3736958429264790016 tw5936893084571000889 tw3717050806033790578 tw2539281937297371520 tw17357922293914507436 tw14162605193821257836 tw12132297736963182328 tw16446198270485019831 tw9414121291376591623 tw13496259289314681760 tw7042173232604221621 tw3089904258158620340 tw12398084273163220762 tw18135205562790056809 tw7163707128942264946 tw10332173027402329997 tw15249042656497976504 tw8708044234542427625 tw9680730481911101731 tw5754524869160544828 tw18437103932193625694 tw6854259452401231205 tw4073885657267649563 tw3633721297170167928 tw1870952270190190743 tw10110197132067459309 tw3237652887773429198 tw3294359877070446697 tw189404466844616652 tw12842898970963504661 tw17462325149087145495 tw10921878115033338690 tw11145621942799783368 tw13705793088721697137 tw2108495319090244192 tw9402715320951735630 tw5388341598982416847 tw682546333068825729 tw9424281133231877243 tw4042187545693280496 tw1027246460923177222 tw4663836880793906569 tw16024106317198461261 tw13838226584304562015 tw11860055732815490747 tw12147706540965540065 tw9562791745009194110 tw14998013596827023844 tw2388863980279734955 tw7827961718746565920 tw16640358031865090747 tw2835738913145252653 tw13268312294800357893 tw9805220561179836452 tw9819447863982849047 tw4656113042014887781 tw4384793668434369867 tw70770280469129870 tw12990737449217338009 tw325416523546194166 tw11456048772697448089 tw14117488713447214907 tw13370634326817403641 tw5454064681943064836 tw13295859248291397595 tw7062314411419500662 tw10869306882916037922 tw14261721692101129846 tw4768602460482830929 tw393724498036374556 tw1597942829669698907 tw10557972102340388825 tw8668575391871589934 tw11275515882642617895 tw12784482261146457240 tw6566126386575565039 tw9441324841720866188 tw4795025256874579291 tw16248926940843778359 tw14513248959356914632 tw13190932479447965886 tw793939216255473836 tw14649550998794199638 tw3579985594011358112 tw15671823525117183994 tw12222450357623110360 tw3286378450094441835 tw4896566597158494970 tw14414087339405915109 tw7869147336644823408 tw6325276535886809980 tw2131541358107815934 tw3932644797366477711 tw16022403096310810167 tw12043503131126249381 tw17413833490086435870 tw8325017934586225065 tw10857549678187242947 tw11707411666753458460 tw11697204919128704926 tw2565506072705582623 tw10231009634772082745 tw4116317868977822522 tw14957321951628809088 tw9031756178552506121 tw17802625211903403234 tw9725097794301769821 tw16832399486657273477 tw12824586386349517889 tw10992864679547634277 tw9241747108998512984 tw9003465847742277942 tw17083480748813118851 tw8098217533741797556 tw8183259682143541831 tw983155917372220764 tw7208990966098281382 tw5580738032748416788 tw8678366978127254989 tw3426988354186634415 tw11383217273982337332 tw4008672827172102292 tw16224790352041045712 tw13491012626518520678 tw16886650440467202473 tw4685135023323335618 tw12543932664684986460 tw2096543382439160483 tw14746322397282455386 tw9042036625915279526 tw16710585986929416624 tw7969990750997875653 tw5269664805413733370 tw8203964314783755128 tw519728438633974252 tw12704852678833713696 tw7429576618563037913 tw3027474133478928565 tw10896266407487748829 tw10311406381765670543 tw17833904951067969346 tw2223410813346182463 tw5490774105473638657 tw2367221771203085820 tw7974142391165607840 tw4611275280004975296 tw7122734864046964460 tw693268069371607778 tw6112390833803026385 tw11522413245731722594 tw10295192844905926324 tw8057838541038844724 tw8713124628118823364 tw5625714336711595584 tw15911728693190752404 tw3188890963560913451 tw9371768840884999567 tw8826642049126305608 tw13521321066306541848 tw2270626338982640886 tw2203897007622357209 tw1926559659308632384 tw14267554798450880651 tw10942280721315906012 tw4795286838548893870 tw6318012028551101269 tw347833746957774202 tw18172751423796719608 tw6778432447473021770 tw10877447208035426460 tw10267279952681631320 tw2080148780443494016 tw13352839941149186724 tw11049889910561506633 tw2183546693815984237 tw8250070480198083894 tw11886209785555282670 tw2838280329009206064 tw5447913920242892177 tw6252185942777248198 tw11779685236808899252 tw6444748059495767524 tw7763038055478864022 tw5022210038281355998 tw16914880260734682404 tw9994357353875890190 tw8749057325782197888 tw4682916178151985380 tw1332063291360613667 tw14273963272623242845 tw17447119636437489979 tw2742760817387804879 tw8110451577644261321 tw14452956590740528052 tw14084122874060038598 tw4849775691764002642 tw10708328329946758582 tw3310589391958091863 tw2419381453318866570 tw15681829157722159626 tw7269514133083653402 tw15112918636711022769 tw5055535118218889750 tw6488373188018481759 tw10258671550905226025 tw9746449142908222699 tw10633292859106754804 tw7041118803213450927 tw3725249813603227463 tw13223647463164042405 tw1867120399536559404 tw15302207744045773666 tw16574244004249349003 tw16104731113201970388 tw7245043742628495070 tw8329607706322034740 tw11810708228140786056 tw12050352813311904842 tw1257699793679681000 tw10019226032444140088 tw1783707492302328035 tw14528487940226544600 tw14984868221103981545 tw13713156937548323357 tw12650905066897954056 tw3972070757132426721 tw16874751221623149315 tw6766762722130978648 tw3772396399347916589 tw18222476841718825056 tw10138909012372438862 tw13696195647081033369 tw390284412569323785 tw8716388823592377458 tw5197404626511566490 tw6524994199209837123 tw12973806694445859338 tw8660777808910010621 tw5523131198350495146 tw3076858104498382710 tw14985293676852930255 tw2137616250006270843 tw3879772006561554002 tw6423931512788216306 tw5939048709084647373 tw14257354680524164698 tw1078337521358075311 tw4483065507548144713 tw15946388390531046836 tw15441500874671310082 tw2483377387238971710 tw10088887211817952809 tw9537599148978010975 tw1347800443524927481 tw14880561188034794978 tw16177835048866162936 tw7164893731841050200 tw12492711357737580852 tw16579276704764118405 tw10781362747561756798 tw5502095718031866518 tw9022410324860438065 tw12439049363776834019 tw11946884902088427517 tw359054338184198731 tw8941503098681347795 tw7805765295540371724 tw3140519991972772740 tw17547145900457376945 tw6138003539518749548 tw1474267529660208508 tw10610159597938524595 tw8569392112604306839 tw10271202037166169771 tw16008460691049534080 tw4458630998429371746 tw5126062994662592826 tw7460394432531703546 tw18108993118478543736 tw16350313325559782045 tw15797551114418812266 tw15672601041427488176 tw17895491760281022733 tw11795820189723327645 tw12904396792514161910 tw6829786090462293344 tw17426855095077634676 tw4423656920624645411 tw552261345750348206 tw15848916833626657769 tw17052222284918538287 tw2674399903743659299 tw4984987197740584705 tw1094812716485745860 tw846814551943838404 tw8704688842636122459 tw17972660849176203957 tw2141605642631811210 tw7550492226125745433 tw16357494415830749644 tw16516371845671355817 tw1536798228420629628 tw3699847875921194891 tw5138935509029563434 tw13000508352754265380 tw2879382683504119263 tw661758513261118797 tw2182178235892529951 tw6350095483978707360 tw3606755232416171376 tw16098660525909797333 tw13220975485640114753 tw351756261085787242 tw12179637654183658278 tw14672490047193010513 tw3058283168545231783 tw9283517877211548369 tw17780122089642114415 tw2853268691382988354 tw14905694493833212177 tw236302547066446986 tw17640579634722393210 tw17380579858806199583 tw3495028461350933782 tw16243237439797857908 tw8121418400911387320 tw17206234393814657175 tw8109829533356189565 tw17156440269396305987 tw13357726125208247618 tw2199922041035151467 tw12928098486485979267 tw4045595946176688214 tw1718549223887815284 tw5513094878686212699 tw1301715463288675162 tw1149412301986542665 tw339734028992156833 tw11790724541123061507 tw5953359545238295550 tw16079467069038111173 tw2056720068136202695 tw416948972325483702 tw5370220855313679143 tw2790228514739940464 tw4245915106959944697 tw3372664274785027467 tw18051252324194124320 tw335055515273312852 tw17846364375163157561 tw17161270282119367995 tw15428080944279447252 tw18033946597260280219 tw8001518615703301417 tw13740845236874370055 tw10765185256776591113 tw3153148567264472783 tw6656319757594521438 tw6762871337506407355 tw1990819657857080356 tw13104908797058964988 tw344248442579206153 tw1048556143278163330 tw7937642251197015604 tw9272522124693457979 tw16087167349149202991 tw16021784761617495962 tw7020959413052335823 tw7871976920522456861 tw1105232010895051798 tw17092116307266438954 tw15709381679894334964 tw7906209586456424602 tw13207440502296478760 tw1921211901287004644 tw7812159794052636596 tw14354192942835071262 tw2104702237882170869 tw11432807796701432748 tw16088563460503568698 tw8160964563490181637 tw18233347208517791942 tw4629877876936854363 tw8559585933137653079 tw16185927808240605784 tw2958420998352799567 tw14869185711813356454 tw6603705332093673457 tw9968564009209177434 tw10052796758356085642 tw10719571391543623168 tw16969295478563243802 tw4535526574152799136 tw1587505307730350515 tw8292094525911770652 tw13356785284705446534 tw15760803287587244790 tw14311911000637493421 tw893910984031352436 tw15758638898591603034 tw11533333636847831901 tw1003652797928522318 tw7138013391274132106 tw12897980910340563927 tw7405222098449975075 tw8345560613808114263 tw4041632846159758409 tw12159238664922701743 tw2687055056600937462 tw13841072084229873212 tw4564749499287879256 tw8861863481754812980 tw9250624072871678250 tw10992006961471570777 tw11396038833217143845 tw15809560256495141622 tw5656038169934343239 tw7315955935079209411 tw4552861062911017662 tw13725122098915758548 tw13443775743940685107 tw12278006126544926139 tw5432452498417617140 tw12877059453228975369 tw4924529901740278496 tw5309379882132874334 tw9175204366415633035 tw14612860741168493674 tw5999913239929388576 tw13476845129670015538 tw5955455062626260094 tw16987370356160200276 tw10747970751297801044 tw15331927949270143691 tw9964893034275992341 tw9589810340508643291 tw3524229859062950355 tw9110156776407705273 tw12206663483992332045 tw387858689050745748 tw3292364946714134038 tw6301976465794096262 tw4368242144840517451 tw6128985894622772675 tw1358437370990722173 tw1538362177597098491 tw10048186448806043960 tw15297519993900904548 tw12016443299732617169 tw1486218292873939436 tw8211852963792106009 tw5306860506374398180 tw18016493123149641197 tw8771055682579697829 tw7392669627401840386 tw9163397818490597828 tw1457217755365385157 tw3835140066188560757 tw17590242154980738359 tw18321886926668888980 tw16997510050945777866 tw17121159274462070169 tw6807618131211764837 tw3065367592016163758 tw11538859284241225624 tw13565140518888883193 tw12100622215743212081 tw10491530745129652999 tw13303528909379752810 tw16521729319429969529 tw1897043417883197035 tw2509044198221966108 tw17349072004079753563 tw7362824771010726331 tw5038838577143333332 tw2261972010056938293 tw17405684454270159368 tw3509687566104390354 tw912686349008802101 tw14861925541665889525 tw2166088588206681422 tw12675010230947166619 tw8780543834108844070 tw12616427789881138731 tw12172492744068900418 tw2978019287599513572 tw17060666025709882364 tw5334865161065546824 tw4963891246193006159 tw182507899978985357 tw9030407199721262388 tw11035542162969891849 tw1030147133199909708 tw4424242125852166886 tw8348587736872876075 tw2423004758299979605 tw14608107211586866807 tw4190753789834760736 tw16423537516835765152 tw11013437430486320589 tw3966432328262149567 tw15280440761875033809 tw10378145122972215033 tw7525579179788408547 tw13288954851729078597 tw17677339202449634339 tw14718726912622515698 tw1719107475565821118 tw8364848482420625541 tw10461267134185248269 tw18265139278296513221 tw255206142393732373 tw3852368968304588725 tw14702702779450057092 tw5024824877843559323 tw13197289913069336820 tw8880576941926116431 tw1757760407574851220 tw17601842027295222586 tw9068916269680875782 tw13561652183429726123 tw1080218611185057879 tw5611554423647386795 tw15706727235987348413 tw2925073614609423960 tw16531209040441833751 tw11195715165868992845 tw15820170297993005739 tw2632562174952121408 tw2050096847627879571 tw6420267650716494508 tw9924321219622535845 tw1313675158847881558 tw3818076148384435135 tw3016412845310050970 tw18146610112901934021 tw11207501856350772954 tw11267056190271008615 tw10021333643814005680 tw4785158908811324153 tw1698198905004731713 tw2076504730958709588 tw7772803002046153161 tw17822981354756693296 tw10291615759262744538 tw5277618126639151450 tw13778679851498024141 tw14987105994690314705 tw1739705761492669013 tw302666428296291610 tw3077002894313035297 tw698157555247422277 tw305252886733692839 tw15660817509825736511 tw364514681151566258 tw2153530077984890300 tw10108431455546853877 tw10659835906334551200 tw6763879016255195342 tw5540793496344376265 tw16093065136659107585 tw13027752696748030893 tw14601497316206685337 tw12536261472378601709 tw7549740848781087303 tw8767617560950538321 tw11706227056375260209 tw9926026725867634801 tw16758260931699722140 tw1439093473685709064 tw14709489588027126748 tw13582489893477773119 tw7714222761144882050 tw4727606451343503941 tw17312168450515263945 tw14344868187909894150 tw8520279560414279650 tw15255654626910312408 tw10390534798275519092 tw9608879414727471455 tw11014419934122242306 tw14665203635121232940 tw987733488519977029 tw7537130595055281213 tw4829087058933909296 tw7635329297444938377 tw3129052902945933845 tw17961175416873661213 tw10243360816447709517 tw5078462272678498720 tw14979388822883800462 tw17959139931465030817 tw14423860908868509306 tw11878606484226839095 tw5274218823804491956 tw6033396485576283063 tw6833604585966039465 tw13610512792553367090 tw16307862461262549834 tw1230769209185479364 tw2222132014120604137 tw11089570834171832430 tw11435361209348247893 tw7252381557396046513 tw11905651623180300796 tw17452895822849629604 tw11019629016055407260 tw10022968820259710979 tw12288055897109436212 tw7222054899664389447 tw13510166065282874754 tw5931832695081741203 tw10463441436747961695 tw1053478059577905923 tw11114447304960395424 tw8141104459534717461 tw2050883982936766987 tw4151029671703332899 tw7965365151033523536 tw3056062031730070014 tw11063823401052577714 tw14629483305956275693 tw12702190204409590194 tw10037381492128616846 tw519676891216039878 tw1793936078460821194 tw14729495219615696621 tw9257597317160075407 tw17971727853484805258 tw7423419995812071528 tw17562862937737173251 tw17913225206095795961 tw1690759665778448817 tw2194741152792379367 tw8954569282901620626 tw3989839252434476379 tw743299150094312409 tw15707411912509514806 tw17889323436350354524 tw17316229192605888446 tw16665488489361562593 tw1030613634321599464 tw1022279768099793130 tw5407869892204207440 tw1762732158787738160 tw12037119967027309103 tw12935343164135584713 tw6037908498754354355 tw1272332748871394774 tw6100975066526417360 tw11868245395703345909 tw4296040452730028824 tw9641669148532307275 tw723530833242574592 tw2597404659366273489 tw2271625271286854293:True)
namespace _X
local macro_rules|`(tactic|left)=>`(tactic|walk_at"")
local macro_rules|`(())=>`(by omega)
local macro_rules|`(∅)=>`(by decide)
local macro_rules|`(tactic|omega)=>`(tactic|lia)
def Dj:=@PySem.evalArgs_none
def Dk:=@PySem.W.hideAll_get
def Dm:=@List.mergeSort_perm
def KA:=@PySem.wpAny_newList
def KC:=@PySem.W.of_hideAll
def KG:=@PySem.W.kitx_tuple
def KH:=@Nat.not_lt
def KI:=@List.find?_eq_none
def aA:=@Nat.le_trans
def aB:=@List.getElem?_set_ne
def aC:=@List.mem_cons
def aD:=@Option.some.inj
def aE:=@List.mem_map
def aG:=@if_neg
def aH:=@decide_eq_true
def aI:=@List.getElem?_append_left
def aJ:=@Nat.ne_of_lt
def aL:=@PySem.mem_of_lookup
def aM:=@decide_eq_false
def aN:=@if_pos
def aO:=@List.mem_of_getElem?
def aP:=@List.size_toArray
def aQ:=@of_decide_eq_true
def aT:=@Bool.and_eq_true
def aU:=@PySem.wpAny_mono
def aW:=@PySem.Heap.get?_update_self
def aY:=@List.getElem?_set_self
def aa:=@Option.map_eq_some_iff
def ae:=@PySem.wpAny_bind
def ag:=@Option.bind_eq_some_iff
def ah:=@List.getElem?_map
def ai:=@PySem.Heap.get?_push_of_some
def aj:=@PySem.wpAny_pure
def ak:=@List.getElem?_eq_getElem
def ao:=@List.getElem?_eq_some_iff
def au:=@Nat.le_refl
def av:=@List.length_map
def ax:=@PySem.Heap.get?_push_size
def ay:=@Nat.lt_of_lt_of_le
def az:=@PySem.Heap.lt_size
def bA:=@List.mem_append
def bB:=@List.map_append
def bD:=@Nat.lt_irrefl
def bE:=@List.mem_append_right
def bG:=@PyProof.Rows.callWith_type1
def bI:=@PyProof.Rows.slot_tuple_getitem
def bJ:=@List.mem_cons_of_mem
def bK:=@PySem.W.mg_of
def bL:=@PySem.W.kia_one
def bO:=@List.any_eq_true
def bP:=@List.all_eq_true
def bS:=@Bool.eq_false_iff
def bV:=@PySem.wpAny_call_entry
def bW:=@PySem.Heap.get?_update_other
def bX:=@List.mem_range
def bY:=@List.map_cons
def bZ:=@PySem.Heap.SameBut.update
def ba:=@List.getElem?_eq_none
def bf:=@Ne.symm
def bg:=@List.mem_filter
def bh:=@Bool.eq_iff_iff
def bq:=@PySem.wpAny_holding
def br:=@PySem.Obj.data_mapFields
def bt:=@List.take_succ
def bw:=@Nat.ne_of_gt
def bx:=@List.mem_singleton
def cA:=@Bool.false_ne_true
def cE:=@PySem.wpAny_Call_Name_kw
def cH:=@Nat.lt_trans
def cJ:=@decide_eq_true_iff
def cK:=@List.pairwise_cons
def cL:=@List.getElem?_append_right
def cP:=@PySem.wpAny_standAt
def cQ:=@List.pairwise_iff_getElem
def cR:=@List.getElem?_eq_none_iff
def cS:=@List.find?_cons
def cT:=@Nat.le_of_lt
def cU:=@List.mem_iff_getElem
def cX:=@PySem.Obj.isFreed_of_fields
def cY:=@PySem.codeAny_builtin
def cZ:=@List.lookup_cons
def cc:=@Nat.zero_le
def cg:=@List.take_length
def cv:=@PySem.wpAny_truthy_bool
def cw:=@PySem.wpAny_setState_of
def cx:=@PySem.wpAny_newObj_type
def cy:=@List.length_take
def cz:=@List.filter_append
def dA:=@Int.toNat_natCast
def dB:=@PySem.wpAny_typeOf
def dD:=@PySem.wpAny_passesOwn
def dE:=@List.mem_append_left
def dJ:=@List.drop_eq_getElem_cons
def dM:=@beq_eq_false_iff_ne
def dN:=@List.getElem?_range
def dO:=@List.filterMap_cons
def dP:=@Array.length_toList
def dW:=@PySem.intKind_is
def dX:=@congrArg
def dY:=@Option.isSome_iff_exists
def da:=@List.getElem?_replicate
def dc:=@List.filter_cons
def de:=@PySem.wpAny_comprehension_free
def df:=@Sum.inl.inj
def dg:=@PySem.W.cellsFrom_some
def dh:=@List.length_append
def dk:=@PySem.wpAny_setField
def dn:=@PySem.Heap.size_push
def dt:=@List.length_filter_le
def dy:=@List.pairwise_map
def dz:=@List.nodup_append
def eA:=@PySem.F.plainAttrs_list
def eG:=@decide_eq_true_eq
def eI:=@Nat.lt_trichotomy
def eJ:=@List.map_map
def eL:=@PySem.call_meets
def eR:=@PySem.wpAny_of_eq
def eT:=@PySem.wpAny_callSpecial?_slot
def eU:=@List.mem_iff_getElem?
def eV:=@Array.getElem_eq_getD
def eX:=@List.getElem_mem
def ei:=@List.nodup_cons
def et:=@Bool.or_eq_true
def fB:=@PySem.wpAny_isInstance
def fJ:=@PySem.plainId_quiet
def fM:=@beq_iff_eq
def fN:=@Nat.one_le_two_pow
def fO:=@Nat.lt_of_le_of_lt
def fP:=@Int.emod_lt_of_pos
def fY:=@Option.isSome_map
def fZ:=@List.reverse_cons
def fe:=@List.pairwise_append
def fj:=@List.append_nil
def fq:=@List.getElem_of_mem
def ft:=@List.filter_sublist
def fu:=@List.filter_eq_self
def gC:=@PySem.tupleKind_room_in1
def gD:=@decide_eq_decide
def gE:=@PySem.F.entry_tuple_add
def gF:=@List.isEmpty_iff
def gN:=@PySem.F.slot_tuple_add
def gO:=@Nat.lt_or_ge
def gP:=@List.set_set
def gQ:=@Int.zero_add
def gR:=@PySem.Calls.call_function_entry
def gh:=@PySem.codeAny_mono
def gi:=@PySem.F.args_tuple_add_2
def gj:=@List.getElem?_take_of_lt
def gk:=@List.any_cons
def gn:=@List.all_cons
def hJ:=@PySem.wpAny_pyIter_list
def hU:=@List.range_succ
def hV:=@Int.emod_nonneg
def iA:=@PySem.noFill_tuple_add
def iB:=@Nat.le_succ
def iQ:=@PySem.W.plainGet_of
def iR:=@PySem.W.callWith_K0
def iS:=@PyProof.Rows.F.entry_set_update_loop
def iT:=@PySem.Calls.callWith_builtin
def ie:=@Nat.eq_of_beq_eq_true
def ig:=@List.take_append_drop
def ij:=@Array.getElem?_toList
def jB:=@List.findIdx?_eq_some_iff_getElem
def jE:=@PySem.wpAny_field
def jF:=@PySem.sizeLine_eq
def jG:=@PySem.isSubtype_type
def jH:=@Nat.lt_succ_of_lt
def jI:=@Nat.le_succ_of_le
def jJ:=@List.getElem_take
def jK:=@List.ext_getElem?
def jL:=@List.append_assoc
def jM:=@List.any_eq_false
def jN:=@PySem.Calls.evalArgs_plain
def jY:=@List.eraseIdx_eq_take_drop_succ
def je:=@PySem.wpAny_updateSeq
def jf:=@PySem.wpAny_execs_nil
def jg:=@PySem.F.slot_dict_itemiterator_iter
def jj:=@PySem.W.callWith_K
def jk:=@List.mem_filterMap
def jl:=@List.mem_cons_self
def kQ:=@PySem.seq_tuple_add
def kR:=@PySem.Paired.length
def kS:=@List.eq_nil_of_length_eq_zero
def ko:=@Nat.lt_succ_self
def kq:=@List.mem_reverse
def ku:=@List.length_drop
def lA:=@List.filter_map
def lB:=@PySem.F.args_tuple_add_2
def ly:=@PySem.wpAny_rule
def lz:=@List.of_mem_zip
def mU:=@PySem.wpAny_pyIter_slot
def mV:=@PySem.wpAny_assign_Name
def mW:=@Option.ne_none_iff_exists'
def mX:=@PySem.Obj.cls_mapFields
def mY:=@List.length_eraseIdx_of_lt
def mZ:=@PySem.F.entry_tuple_add
def nY:=@Array.getElem?_eq_getElem
def ng:=@Bool.false_and
def oV:=@PySem.wpAny_askSetting
def oW:=@PySem.F.slot_tuple_add
def oX:=@Bool.true_and
def qo:=@decide_eq_false_iff_not
def qp:=@PySem.F.slot_dict_items
def qq:=@PySem.F.plainAttrs_dict
def qr:=@List.pairwise_mergeSort
def sA:=@Array.getElem?_eq_none
def so:=@PySem.codeAny_of_tree
def su:=@PyProof.Rows.boot_list
def sv:=@List.take_of_length_le
def sx:=@List.pairwise_lt_range
def sy:=@List.any_map
def vE:=@PySem.W.methodCall_KW
def vF:=@PySem.F.type_list_pop
def vG:=@PySem.F.slot_list_pop
def vH:=@PySem.F.slot_dict_pop
def vI:=@PyProof.Rows.boot_int
def vJ:=@List.length_singleton
def vK:=@List.length_replicate
def vL:=@List.Pairwise.sublist
def xV:=@PySem.wpAny_runValue
def xW:=@PySem.entryFor_alias
def xX:=@Prod.mk.inj
def xY:=@Nat.pow_le_pow_right
def xZ:=@List.getElem_toArray
def ya:=@List.Pairwise.filter
def yb:=@PySem.Calls.Name_function_global
namespace L2
open PySem PySem.Spec PyProof.Rows
variable{xs vs:List V}{us:List Value}{H H':Hp}{a b f C dx:Addr}{o:HO}{u:Value}{P:Program}{w:World}{h h' base:Heap}{α:Type}{x m:Str}{e c tg:Expr}{X:Cx}{pins:List (Addr×Obj)}{Z:St}{s:Shared}{t' i k:Nat}{ch fp:List Addr}{N ps:List Str}{M:Model}{A:Around}{E Q:Value->Shared->Prop}{v:V}{t:TA}{ta tb te:TE}{pos pos' p:Pos}{K:PySem.W.Frag}{es:List Expr}{op:CmpOp}{body:List Stmt}{r:R2}{fd:FuncData}{CX:mn}{sp:Sp}
noncomputable abbrev Key:=Sum Int Str
def X6:Key->Value->Bool
 |.inl k,v=>Value.isInt k v
 |.inr x,v=>Value.isStrOf x v
def Ti(w:World):Key->Int
 |.inl k=>hashInt k
 |.inr x=>hashStr w x
theorem k9:∀{k:Key} {v:Value},X6 k v=true->(∃i t,k=Sum.inl i/\v=Value.int i t)\/(∃x t,k=Sum.inr x/\v=Value.str x t)
 |.inl i,v,h=>by
  obtain⟨t,e⟩:=Value.isInt_shape (k:=i) (v:=v) h;exact .inl ⟨i,t,rfl,e⟩
 |.inr x,v,h=>by
  obtain⟨t,e⟩:=Value.isStrOf_shape (x:=x) (v:=v) h;exact .inr ⟨x,t,rfl,e⟩
theorem a34(i:Int)(t:Tok):X6 (.inl i) (.int i t)=true:=by simp[X6,Value.isInt]
theorem a33(x:Str)(t:Tok):X6 (.inr x) (.str x t)=true:=by simp[X6,Value.isStrOf]
theorem WX(a b:Int):decide ((Sum.inl a:Key)=Sum.inl b)=(a==b):=by
 by_cases e:a=b
 ·subst e;simp
 ·have h:¬(Sum.inl a:Key)=Sum.inl b:=λq=>e (df q);rw[aM h];exact(dM.mpr e).symm
theorem Xa(a b:Str):decide ((Sum.inr a:Key)=Sum.inr b)=decide (a=b):=by
 simp
theorem WY(a:Int)(b:Str):decide ((Sum.inl a:Key)=Sum.inr b)=false:=aM (λq=>nomatch q)
theorem WZ(a:Str)(b:Int):decide ((Sum.inr a:Key)=Sum.inl b)=false:=aM (λq=>nomatch q)
def f7(prog:Program)(w:World):PySem.KeyKind prog w Key where
 is:=X6
 hash:=Ti w
 inj:=λv a b ha hb=>by
  rcases k9 ha with⟨i,t,rfl,rfl⟩|⟨x,t,rfl,rfl⟩
  ·rcases k9 hb with⟨j,u,rfl,e⟩|⟨y,u,rfl,e⟩
   ·injection e with e1 _;rw[e1]
   ·exact nomatch e
  ·rcases k9 hb with⟨j,u,rfl,e⟩|⟨y,u,rfl,e⟩
   ·exact nomatch e
   ·injection e with e1 _;rw[e1]
 byValue:=λk v h=>by
  rcases k9 h with⟨i,t,rfl,rfl⟩|⟨x,t,rfl,rfl⟩<;>rfl
 pyHash:=λhv h=>by
  rcases k9 hv with⟨i,t,rfl,rfl⟩|⟨x,t,rfl,rfl⟩
  ·exact wpAny_pyHash_int h
  ·exact wpAny_pyHash_str h
 eqBool:=λhu hv h=>by
  rcases k9 hu with⟨i,t,rfl,rfl⟩|⟨x,t,rfl,rfl⟩
  ·rcases k9 hv with⟨j,u,rfl,rfl⟩|⟨y,u,rfl,rfl⟩
   ·rw[WX] at h;exact wpAny_eqBool_int h
   ·rw[WY] at h;exact SeqAt.EqAt.int_str i t y u _ _ _ _ h
  ·rcases k9 hv with⟨j,u,rfl,rfl⟩|⟨y,u,rfl,rfl⟩
   ·rw[WZ] at h;exact SeqAt.EqAt.str_int x t j u _ _ _ _ h
   ·rw[Xa] at h;exact wpAny_eqBool_str h
 «strs»:=λk x t v h=>by
  rcases k9 h with⟨i,u,rfl,e⟩|⟨y,u,rfl,e⟩
  ·exact nomatch e
  ·injection e with e1 _;subst e1;cases v<;>rfl
theorem Hr(prog:Program)(w:World)(k:Key)(v:Value):(f7 prog w).is k v=X6 k v:=rfl
theorem ZE(prog:Program)(w:World)(i:Int)(t:Tok):(f7 prog w).is (.inl i) (.int i t)=true:=a34 i t
theorem ZF(prog:Program)(w:World)(x:Str)(t:Tok):(f7 prog w).is (.inr x) (.str x t)=true:=a33 x t
set_option genInjectivity true in
inductive V where
 |bc|bl (b:Bool)|int (i:Int)|str (x:Str)|kj (b:Array UInt8)|pU (b:UInt64)|ref (a:Addr)|ty (n:String)
 deriving DecidableEq
def RelV:V->Value->Prop
 |.bc,u=>u=Value.none
 |.bl b,u=>u=Value.bool b
 |.int i,u=>∃t,u=Value.int i t
 |.str x,u=>∃t,u=Value.str x t
 |.kj b,u=>∃t,u=Value.bytes b t
 |.pU b,u=>∃t,u=Value.float b t
 |.ref a,u=>u=Value.ref a
 |.ty n,u=>u=Value.type n
noncomputable abbrev Vals:List V->List Value->Prop:=Paired RelV
theorem Vals.length{xs:List V}{us:List Value}(r:Vals xs us):xs.length=us.length:=kR r
theorem Vals.get:∀{xs:List V} {us:List Value} {i:Nat} {x:V},Vals xs us->xs[i]?=some x->∃u,us[i]?=some u/\RelV x u
 |_,_,_,_,.nil,e=>by simp at e
 |_,_,0,_,.cons r _,e=>by simp at e;subst e;exact⟨_,rfl,r⟩
 |_,_,i+1,x,.cons _ t,e=>by
  obtain⟨u,h1,h2⟩:=Vals.get (i:=i) (x:=x) t (by simpa using e);exact⟨u,by simpa using h1,h2⟩
theorem Vals.set{x:V}{u:Value}(r:RelV x u):∀{xs:List V} {us:List Value} (i:Nat),Vals xs us->Vals (xs.set i x) (us.set i u)
 |_,_,_,.nil=>.nil
 |_,_,0,.cons _ t=>.cons r t
 |_,_,i+1,.cons q t=>.cons q (Vals.set r i t)
theorem Vals.append{ys:List V}{ws:List Value}(h:Vals xs us)(s:Vals ys ws):Vals (xs++ys) (us++ws):=by
 induction h with
 |nil=>exact s
 |cons r t ih=>exact .cons r ih
theorem Vals.take:∀{xs:List V} {us:List Value} (n:Nat),Vals xs us->Vals (xs.take n) (us.take n)
 |_,_,0,_=>.nil
 |_,_,_+1,.nil=>.nil
 |_,_,n+1,.cons r t=>.cons r (Vals.take n t)
theorem Vals.drop:∀{xs:List V} {us:List Value} (n:Nat),Vals xs us->Vals (xs.drop n) (us.drop n)
 |_,_,0,r=>r
 |_,_,_+1,.nil=>.nil
 |_,_,n+1,.cons _ t=>Vals.drop n t
def A4:Option V->Option Value->Prop
 |some v,some u=>RelV v u
 |none,none=>True
 |_,_=>False
def KV{κ:Type}:List (κ×V)->List (κ×Value)->Prop:=Paired λ(p:κ×V) (q:κ×Value)=>p.1=q.1/\RelV p.2 q.2
def kV:Key->V
 |.inl i=>.int i
 |.inr x=>.str x
inductive HO where
 |lst (xs:List V)
 |tup (xs:List V)
 |dK (kvs:List (Key×V))|dT (kvs:List (List Key×V))
 |set (S:Int->Bool) (n:Nat)
 |ins (C dx:Addr) (fs:List (Str×V))
 |own (x:Addr)
 |xd (fs:List (Str×V))
 |met (f x:Addr)
 |kU (lo hi:Int)
 |jb (o:Obj) (u:HO)
 |og (ps:Array Value)
 |ext (φ:Heap->Prop)
noncomputable abbrev Hp:=Addr->Option HO
def upd(H:Hp)(a:Addr)(o:HO):Hp:=λb=>if b=a then some o else H b
theorem d8:upd H a o a=some o:=by unfold upd;rw[aN rfl]
theorem b9(h:b≠a):upd H a o b=H b:=by unfold upd;rw[aG h]
theorem VB{u:HO}(h:H a=some o)(h':H b=some u)(d:o≠u):a≠b:=by
 intro e;subst e;rw[h] at h';exact d (aD h')
theorem d4(h:H a=some o)(h':H b=none):a≠b:=by
 intro e;simp_all
def Q5(h:Heap)(a:Addr)(items:Array Value):Prop:=∃o,h.get? a=some o/\o.cls=.type "tuple"/\(∃n,o.data=.seq items n)/\o.dict=none
theorem Q5.tup{h:Heap}{a:Addr}{items:Array Value}(x:Q5 h a items):IsTup h a items:=let ⟨o,e,c,d,_⟩:=x;⟨o,e,c,d⟩
theorem Q5.new(h:Heap)(items:Array Value):Q5 (h.push { cls:=.type "tuple",data:=.seq items }) h.objs.size items:=⟨_,ax _ rfl,rfl,⟨_,rfl⟩,rfl⟩
section
variable(P:Program)(w:World)
def j4(H:Hp)(h:Heap)(a:Addr):HO->Prop
 |.lst xs=>xs.length<=sizeLine/\∃(aX:List Value) (n:Nat),Vals xs aX/\h.get? a=some { cls:=.type "list",data:=.seq aX.toArray n }
 |.tup xs=>xs.length<=sizeLine/\∃aX:List Value,Vals xs aX/\Q5 h a aX.toArray
 |.dK kvs=>kvs.length<=sizeLine/\(a==sysModules)=false/\∃vs,KV kvs vs/\h.DictOf (f7 P w) a vs
 |.dT kvs=>kvs.length<=sizeLine/\(a==sysModules)=false/\∃xs:List (List Key×Addr×Value),
   Paired (λ(p:List Key×V) (q:List Key×Addr×Value)=>p.1=q.1/\H q.2.1=some (.tup (p.1.map kV))/\RelV p.2 q.2.2) kvs xs /\
   ∃o es ep,h.get? a=some o/\o.ExactDict/\o.data=.dict es ep/\es.toList=xs.map (entryOfKey (tupleKind (f7 P w)))/\(xs.map (·.1)).Nodup
 |.set S n=>h.SetOf (intKind P w) a S n
 |.ins C dx fs=>H dx=some (.own a)/\fs.length<=1000/\dx≠a/\h.get? a=some (PySem.W.instObj C dx) /\
   ∃mA,h.Ns1 dx mA/\(∀f,A4 (fs.lookup f) (mA f))/\PySem.Within mA (fs.map (·.1))
 |.own _=>∃o,h.get? a=some o
 |.xd fs=>∃mA,h.Ns1 a mA/\∀f,A4 (fs.lookup f) (mA f)
 |.kU lo hi=>∃t u v,h.get? a=some { cls:=.type "range",data:=.fields #[.int lo t,.int hi u,.int 1 v] }
 |.jb o u=>h.get? a=some o/\j4 H h a u
 |.og ps=>h.get? a=some { cls:=.none,data:=.fields ps }
 |.met f x=>h.get? a=some (PySem.W.methodObj (.ref f) (.ref x))
 |.ext φ=>φ h/\(∃o,h.get? a=some o)/\∀h1 h2:Heap,φ h1->(∀o,h1.get? a=some o->h2.get? a=some o)->φ h2
def fA(H:Hp)(h:Heap):Prop:=∀a o,H a=some o->j4 P w H h a o
end
theorem j4.lt(x:j4 P w H h a o):a<h.objs.size:=by
 cases o with
 |lst xs=>obtain⟨_,_,_,_,e⟩:=x;exact az e
 |tup xs=>obtain⟨_,_,_,p⟩:=x;exact p.tup.lt
 |dK kvs=>obtain⟨_,_,_,_,o,_,_,e,_⟩:=x;exact az e
 |dT kvs=>obtain⟨_,_,_,_,o,_,_,e,_⟩:=x;exact az e
 |set S n=>obtain⟨o,_,_,_,e,_⟩:=x;exact az e
 |ins C dx fs=>obtain⟨_,_,_,e,_⟩:=x;exact az e
 |own y=>obtain⟨_,e⟩:=x;exact az e
 |xd fs=>obtain⟨_,⟨_,_,_,e,_⟩,_⟩:=x;exact az e
 |kU lo hi=>obtain⟨_,_,_,e⟩:=x;exact az e
 |jb ob u=>obtain⟨e,_⟩:=x;exact az e
 |og ps=>exact az (show h.get? a=some _ from x)
 |met f y=>exact az (show h.get? a=some _ from x)
 |ext φ=>obtain⟨_,⟨_,e⟩,_⟩:=x;exact az e
theorem Paired.Gw{β:Type}{F G:α->β->Prop}{sZ:List α}{sY:List β}(h:Paired F sZ sY)(f:∀a b,F a b->G a b):Paired G sZ sY:=by
 induction h with
 |nil=>exact .nil
 |cons r t ih=>exact .cons (f _ _ r) ih
theorem j4.A7(x:j4 P w H h a o)(k:∀b u,(b=a\/H b=some (.own a))->h.get? b=some u->h'.get? b=some u)(ho:∀b,H b=some (.own a)->H' b=some (.own a))(ht:∀b xs,H b=some (.tup xs)->H' b=some (.tup xs)):j4 P w H' h' a o:=by
 induction o with
 |lst xs=>obtain⟨z,aX,n,r,e⟩:=x;exact⟨z,aX,n,r,k _ _ (.inl rfl) e⟩
 |tup xs=>obtain⟨z,aX,r,ob,e,c⟩:=x;exact⟨z,aX,r,ob,k _ _ (.inl rfl) e,c⟩
 |dK kvs=>obtain⟨z,y,vs,r,ob,es,ep,e,c⟩:=x;exact⟨z,y,vs,r,ob,es,ep,k _ _ (.inl rfl) e,c⟩
 |dT kvs =>
  obtain⟨z,y,xs,r,ob,es,ep,e,c⟩:=x;exact⟨z,y,xs,Paired.Gw r λp q z=>⟨z.1,ht _ _ z.2.1,z.2.2⟩,ob,es,ep,k _ _ (.inl rfl) e,c⟩
 |set S n=>obtain⟨ob,es,ep,t,e,c⟩:=x;exact⟨ob,es,ep,t,k _ _ (.inl rfl) e,c⟩
 |ins C dx fs =>
  obtain⟨d,z,ne,e,mA,⟨od,es,ep,e2,c⟩,r⟩:=x;exact⟨ho _ d,z,ne,k _ _ (.inl rfl) e,mA,⟨od,es,ep,k _ _ (.inr d) e2,c⟩,r⟩
 |own y=>obtain⟨ob,e⟩:=x;exact⟨ob,k _ _ (.inl rfl) e⟩
 |xd fs=>obtain⟨mA,⟨od,es,ep,e,c⟩,r⟩:=x;exact⟨mA,⟨od,es,ep,k _ _ (.inl rfl) e,c⟩,r⟩
 |kU lo hi=>obtain⟨t,u,v,e⟩:=x;exact⟨t,u,v,k _ _ (.inl rfl) e⟩
 |jb ob u ih=>obtain⟨e,q⟩:=x;exact⟨k _ _ (.inl rfl) e,ih q⟩
 |og ps =>
  have e:h.get? a=some { cls:=.none,data:=.fields ps }:=x;exact k a _ (.inl rfl) e
 |met f y =>
  have e:h.get? a=some (PySem.W.methodObj (.ref f) (.ref y)):=x;exact k a _ (.inl rfl) e
 |ext φ=>obtain⟨p,⟨o,e⟩,st⟩:=x;exact⟨st _ _ p λo q=>k _ _ (.inl rfl) q,⟨o,k _ _ (.inl rfl) e⟩,st⟩
theorem fA.lt(x:fA P w H h)(e:H a=some o):a<h.objs.size:=(x a o e).lt
theorem fA.fresh(x:fA P w H h)(e:h.objs.size<=a):H a=none:=by
 cases q:H a with
 |none=>rfl
 |some u=>exact absurd (ay (x.lt q) e) (bD _)
theorem fA.kept(x:fA P w H h)(k:∀b u,h.get? b=some u->h'.get? b=some u):fA P w H h':=λa o e =>
 (x a o e).A7 (λb u _ q=>k b u q) (λ_ q=>q) λ_ _ q=>q
theorem fA.laid(x:fA P w H h)(k:∀b u,h.get? b=some u->h'.get? b=some u)(hp:h.objs.size<=a)(new:j4 P w (upd H a o) h' a o):fA P w (upd H a o) h':=λb u e=>by
 have hn:=x.fresh hp;by_cases hb:b=a
 ·subst hb;rw[d8] at e;simp_all
 ·rw[b9 hb] at e;exact(x b u e).A7 (λc v _ q=>k c v q) (λc q=>by rw[b9 (d4 q hn)];exact q) λc xs q=>by rw[b9 (d4 q hn)];exact q
def Rd(H:Hp)(a:Addr)(u:HO):Prop:=H a=some u\/∃o,H a=some (.jb o u)
theorem Rd.ok{u:HO}(r:Rd H a u)(x:fA P w H h):j4 P w H h a u:=by
 rcases r with r|⟨o,r⟩
 ·exact x a u r
 ·obtain⟨_,q⟩:=x a _ r;exact q
def vz:Option HO->Prop
 |some (.lst _)=>True
 |some (.dK _)=>True
 |some (.dT _)=>True
 |some (.set _ _)=>True
 |some (.ins _ _ _)=>True
 |some (.ext _)=>True
 |_=>False
section
variable{x e:Addr}{o':HO}
theorem fA.write(ok:fA P w H h)(mu:vz (H x))(he:e=x\/H e=some (.own x))(k:∀b u,b≠e->h.get? b=some u->h'.get? b=some u)(pI:∃u,h'.get? e=some u)(new:j4 P w (upd H x o') h' x o'):fA P w (upd H x o') h':=λb u q=>by
 have sP:∀c y,H c=some (.own y)->c≠x:=λc y r z=>by subst z;rw[r] at mu;exact mu
 have yv:∀c xs,H c=some (.tup xs)->c≠x:=λc xs r z=>by subst z;rw[r] at mu;exact mu
 by_cases hb:b=x
 ·subst hb;rw[d8] at q;cases q;exact new
 ·rw[b9 hb] at q;by_cases qQ:b=e
  ·have q':H b=some (.own x):=by
    rcases he with z|z
    ·exact absurd (qQ.trans z) hb
    ·rw[qQ];exact z
   rw[q] at q';cases q';obtain⟨v,hv⟩:=pI;exact⟨v,by rw[qQ];exact hv⟩
  ·refine(ok b u q).A7 (λc v hc r=>k c v ?_ r) (λc r=>by rw[b9 (sP c b r)];exact r) λc xs r=>by rw[b9 (yv c xs r)];exact r
   rcases hc with rfl|hc
   ·exact qQ
   ·rintro rfl;rcases he with z|z
    ·exact sP c b hc z
    ·rw[hc] at z;cases z;exact hb rfl
end
structure Un(fs ex:List Addr)(H H':Hp)(h h':Heap):Prop where
 keep:∀b o,h.get? b=some o->H b=none->b∉fs->b∉ex->h'.get? b=some o
 slot:∀b o,h.get? b=some o->H b=none->b∈fs->b∉ex->∃sl,h'.get? b=some { o with slots:=sl }
 free:∀b o,h.get? b=some o->H b=none->b∉ex->H' b=none
 there:∀b o,h.get? b=some o->b∉ex->∃o',h'.get? b=some o'
 gS:∀b xs,H b=some (.tup xs)->H' b=some (.tup xs)
 gH:∀b o u,H b=some (.jb o u)->H' b=some (.jb o u)
 gT:∀b ps,H b=some (.og ps)->∃more,H' b=some (.og (ps++more))
section
variable{fs ex:List Addr}{H1:Hp}{h1:Heap}{x e:Addr}
theorem Un.any(u:Un fs ex H H1 h h1){ob:Obj}(q:h.get? b=some ob)(n:H b=none)(hx:b∉ex):∃sl,h1.get? b=some { ob with slots:=sl }:=by
 by_cases hb:b∈fs
 ·exact u.slot b ob q n hb hx
 ·exact⟨ob.slots,u.keep b ob q n hb hx⟩
theorem Un.kept(k:∀b u,h.get? b=some u->h'.get? b=some u):Un fs ex H H h h' :=
 ⟨λb ob q _ _ _=>k b ob q,λb ob q _ _ _=>⟨ob.slots,k b ob q⟩,λ_ _ _ n _=>n,λb ob q _=>⟨ob,k b ob q⟩,λ_ _ q=>q,λ_ _ _ q=>q,λ_ ps q=>⟨#[],by rw[q];simp⟩⟩
theorem Un.refl:Un fs ex H H h h:=Un.kept λ_ _ q=>q
theorem Un.laid(k:∀b u,h.get? b=some u->h'.get? b=some u)(hp:h.objs.size<=a)(hn:H a=none):Un fs ex H (upd H a o) h h' where
 keep:=λb u q _ _ _=>k b u q
 slot:=λb u q _ _ _=>⟨u.slots,k b u q⟩
 free:=λb u q n _=>by rw[b9 (aJ (ay (az q) hp))];exact n
 there:=λb u q _=>⟨u,k b u q⟩
 gS:=λb xs q=>by rw[b9 (d4 q hn)];exact q
 gH:=λb u xs q=>by rw[b9 (d4 q hn)];exact q
 gT:=λb ps q=>⟨#[],by rw[b9 (d4 q hn),q];simp⟩
theorem Un.write(mu:vz (H x))(he:e=x\/H e=some (.own x))(k:∀b u,b≠e->h.get? b=some u->h'.get? b=some u)(pI:∃u,h'.get? e=some u):Un fs ex H (upd H x o) h h':=by
 have hx:∀b,H b=none->b≠x:=λb n z=>by subst z;rw[n] at mu;exact mu
 have hb:∀b,H b=none->b≠e:=λb n z=>by
  simp_all
 have hm:∀b u,H b=some u->¬vz (some u)->b≠x:=λb u q nm z=>by simp_all
 refine ⟨λb u q n _ _=>k b u (hb b n) q,λb u q n _ _=>⟨u.slots,k b u (hb b n) q⟩,λb u q n _=>by rw [b9 (hx b n)];exact n,λb u q _=>?_,
  λb xs q=>by rw [b9 (hm b _ q λz=>z)];exact q,λb u xs q=>by rw [b9 (hm b _ q λz=>z)];exact q,λb ps q=>⟨#[],by rw [b9 (hm b _ q λz=>z),q];simp⟩⟩
 by_cases qQ:b=e
 ·simp_all
 ·exact⟨u,k b u qQ q⟩
end
def ni(h:Heap)(H:Hp):List Addr:=(List.range h.objs.size).filter λa=>(H a).isSome
def nS(h:Heap)(H:Hp):Heap:=PySem.W.hideAll h (ni h H)
theorem a40(h:Heap)(H:Hp):(nS h H).objs.size=h.objs.size:=PySem.W.hideAll_size _ _
theorem RK{o:Obj}(e:h.get? b=some o)(n:H b=none):(nS h H).get? b=some o :=
 Dk _ e λhm=>by
  have q:(H b).isSome=true:=(bg.mp hm).2;rw[n] at q;simp at q
theorem PY{o:Obj}(e:(nS h H).get? b=some o):h.get? b=some o/\H b=none:=by
 have e':h.get? b=some o:=KC (ni h H) e;refine⟨e',?_⟩;cases q:H b with
 |none=>rfl
 |some x =>
  have hm:b∈ni h H:=bg.mpr ⟨bX.mpr (az e'),by simp[q]⟩;have z:(nS h H).get? b=none:=PySem.W.hideAll_none (ni h H) hm
  simp_all
structure Mod(K:PySem.W.Frag)(mg:Str->Option Value)(base:Heap):Prop where
 lK:K.In base
 glob:base.Ns mainGlobals mg
 blt:∃mb,base.Ns builtinsNs mb/\∀x:Str,x≠"__name__"->mb x=bootBuiltins x
 nolimit:base.NoLimit
structure Cx where
 prog:Program
 w:World
 K:PySem.W.Frag
 mg:Str->Option Value
 base:Heap
 A:Around
 N:List Str
 cV:Shared
 iK:Hp
 env:Env
 outer:List Env
 stack:List Env
 ex:List Addr
 fn:Str->Bool
 calm:Bool
 pn:List (Addr×Obj)
 xe:Value->Shared->Prop
 sg:Option (List (Option V)):=none
def Cx.Nd(X:Cx):Prop:=X.N.Nodup/\X.sg=none
def fm(l:List Env):List Addr:=l.filterMap (·.frame)
noncomputable abbrev Cx.fs(X:Cx):List Addr:=fm X.outer
def vp(sc:Scope)(x:Str):Prop:=sc.names.lookup x=some .local\/sc.names.lookup x=some .cell\/sc.names.lookup x=some .free
def Loc(sc:Scope)(x:Str):Prop:=sc.names.lookup x=some .local\/sc.names.lookup x=some .cell
def Look(env:Env)(h:Heap)(m:Str->Option Value)(x:Str)(u:Value):Prop :=
 (env.kindOf x=some .local/\m x=some u)\/((env.kindOf x=some .cell\/env.kindOf x=some .free)/\∃c,env.cells.lookup x=some c/\h.IsCell c (some u))
structure Cx.Ok(X:Cx):Prop where
 mod:Mod X.K X.mg X.base
 kind:X.env.scope.kind=.function
 glob:X.env.globals=mainGlobals
 blt:X.env.builtins=builtinsNs
 above:X.cV.heap.objs.size<=X.env.locals
 inj:∀x y c,X.env.cells.lookup x=some c->X.env.cells.lookup y=some c->x=y
 has:∀x,(X.env.kindOf x=some .cell\/X.env.kindOf x=some .free)->∃c,X.env.cells.lookup x=some c
 fI:∀x c,X.fn x=true->X.env.cells.lookup x=some c->X.cV.heap.objs.size<=c
 hd:X.calm=true->X.A.handled=none
 frames:X.A.frames=some X.stack
 ph:X.stack=X.outer\/(X.stack=X.env::X.outer/\X.env.frame=some X.env.locals)
 ui:∀b∈X.ex,b≠X.env.locals/\∀x c,X.env.cells.lookup x=some c->c≠b
 bs:∀b o,X.base.get? b=some o->X.cV.heap.get? b=some o/\X.iK b=none
 mf:X.base.objs.size<=X.cV.heap.objs.size
 jq:∀b o,X.base.get? b=some o->b∉X.ex
 jV:∀b∈X.ex,b∉X.fs
 K7:X.cV.heap.FunFrames X.base X.outer
 mO:∀b∈X.fs,X.iK b=none
structure Inv(X:Cx)(pins:List (Addr×Obj))(Z:List (Option V))(H:Hp)(s:Shared):Prop where
 ok:X.Ok
 os:s.os=X.cV.os
 bare:AllBare s.gens
 base:Un X.fs X.ex X.iK H X.cV.heap s.heap
 loc:∃m,s.heap.Ns X.env.locals m/\∀(i:Nat) (x:Str) (v:V),X.N[i]?=some x->Z[i]?=some (some v)->vp X.env.scope x->∃u,RelV v u/\Look X.env s.heap m x u
 cell:∀x c,X.env.cells.lookup x=some c->∃v,s.heap.IsCell c v
 free:H X.env.locals=none
 dS:∀x c,X.env.cells.lookup x=some c->H c=none
 pin:∀p∈X.pn++pins,s.heap.get? p.1=some p.2/\H p.1=none/\p.1≠X.env.locals/\p.1∉X.fs/\∀v,p.2.data≠.cell v
 bz:fA X.prog X.w H s.heap
 len:Z.length=X.N.length
 sg:∀cM,X.sg=some cM->Z=cM
section
variable{Z:List (Option V)}
theorem Cx.Ok.TJ(ok:X.Ok){o:Obj}(e:X.base.get? b=some o):b∉X.fs:=λhb=>by
 have:=(ok.K7.mem hb).1
 simp_all
theorem Inv.bs(I:Inv X pins Z H s):∀b o,X.base.get? b=some o->s.heap.get? b=some o/\H b=none:=λb o e =>
 ⟨I.base.keep b o (I.ok.bs b o e).1 (I.ok.bs b o e).2 (I.ok.TJ e) (I.ok.jq b o e),I.base.free b o (I.ok.bs b o e).1 (I.ok.bs b o e).2 (I.ok.jq b o e)⟩
theorem Inv.bk(I:Inv X pins Z H s):∀b o,X.base.get? b=some o->s.heap.get? b=some o:=λb o e=>(I.bs b o e).1
theorem Inv.mod(I:Inv X pins Z H s):Mod X.K X.mg X.base:=I.ok.mod
theorem Inv.fS(I:Inv X pins Z H s):X.K.In s.heap:=I.ok.mod.lK.keeps I.bk
theorem Inv.lt(I:Inv X pins Z H s):X.env.locals<s.heap.objs.size:=let ⟨_,hn,_⟩:=I.loc;hn.lt
theorem Inv.sz(I:Inv X pins Z H s):X.cV.heap.objs.size<=s.heap.objs.size:=aA I.ok.above (cT I.lt)
theorem Inv.AK(I:Inv X pins Z H s)(h:s.heap.objs.size<=a):a∉X.fs:=λhb=>by
 obtain⟨_,o,ho,_⟩:=I.ok.K7.mem hb;exact absurd (ay (az ho) (aA I.sz h)) (bD _)
theorem Inv.pV(I:Inv X pins Z H s):∀x c,X.env.cells.lookup x=some c->c≠X.env.locals:=λx c e z=>by
 obtain⟨v,o,ho,hd⟩:=I.cell x c e;obtain⟨m,⟨o',es,ep,mG,Eo,_⟩,_⟩:=I.loc
 simp_all
theorem Inv.K7(I:Inv X pins Z H s):s.heap.FunFrames X.base X.outer:=by
 have all:∀(l:List Env),(∀b∈fm l,b∈X.fs)->X.cV.heap.FunFrames X.base l->s.heap.FunFrames X.base l:=by
  intro l
  induction l with
  |nil=>intro _ _;trivial
  |cons env r ih =>
   intro hs hl;obtain⟨hk,⟨L,o,hf,hn,ho,hd⟩,hr⟩:=hl;have hL:L∈X.fs:=hs L (by unfold fm;rw[dO,hf];exact jl);obtain⟨sl,e⟩:=I.base.slot L o ho (I.ok.mO L hL) hL λz=>I.ok.jV L z hL;exact⟨hk,⟨L,_,hf,hn,e,hd⟩,ih (λb hb=>hs b (by unfold fm;rw[dO,hf];exact bJ _ hb)) hr⟩
 exact all X.outer (λ_ hb=>hb) I.ok.K7
theorem Inv.stack(I:Inv X pins Z H s):s.heap.FunFrames X.base X.stack:=by
 rcases I.ok.ph with e|⟨e,hf⟩
 ·rw[e];exact I.K7
 ·rw[e];obtain⟨m,hn,_⟩:=I.loc;refine .cons (by rw[I.ok.kind];decide) hf hn ?_ I.K7;exact Heap.get?_none_of_le (aA I.ok.mf I.ok.above)
theorem Inv.T6(I:Inv X pins Z H s):∀b∈fm X.stack,b∈X.env.locals::X.fs:=λb hb=>by
 rcases I.ok.ph with e|⟨e,hf⟩
 ·rw[e] at hb;exact bJ _ hb
 ·rw[e] at hb;unfold fm at hb;rw[dO,hf] at hb;exact hb
theorem Inv.xf(I:Inv X pins Z H s):∀b∈fm X.stack,H b=none:=λb hb=>by
 rcases aC.mp (I.T6 b hb) with e|hb
 ·rw[e];exact I.free
 ·obtain⟨_,o,ho,_⟩:=I.ok.K7.mem hb;exact I.base.free b o ho (I.ok.mO b hb) λz=>I.ok.jV b z hb
theorem Inv.step{g':Array GenState}{t':Nat}{d':Drawn}{ch:List Addr}(I:Inv X pins Z H s)(mJ:∀b∈ch,(b∈X.ex\/X.cV.heap.objs.size<=b)/\b≠X.env.locals/\(∀x c,X.env.cells.lookup x=some c->c≠b)/\∀p∈X.pn++pins,p.1≠b)(keep:∀b o,b≠X.env.locals->b∉X.fs->b∉ch->s.heap.get? b=some o->H b=none->h'.get? b=some o)(slot:∀b o,b≠X.env.locals->b∈X.fs->b∉ch->s.heap.get? b=some o->H b=none->∃sl,h'.get? b=some { o with slots:=sl })(free:∀b o,b∉ch->s.heap.get? b=some o->H b=none->H' b=none)(there:∀b o,b∉ch->s.heap.get? b=some o->∃o',h'.get? b=some o')(gS:∀b xs,H b=some (.tup xs)->H' b=some (.tup xs))(gH:∀b o u,H b=some (.jb o u)->H' b=some (.jb o u))(gT:∀b ps,H b=some (.og ps)->∃more,H' b=some (.og (ps++more)))(ns:∀m,s.heap.Ns X.env.locals m->h'.Ns X.env.locals m)(bz:fA X.prog X.w H' h')(hg:AllBare g') :
  Inv X pins Z H' { s with heap:=h',gens:=g',drawn:=d',toks:=t' }:=by
 have DK:∀b o,X.cV.heap.get? b=some o->b≠X.env.locals:=λb o e=>aJ (ay (az e) I.ok.above);have qz:∀b o,X.cV.heap.get? b=some o->b∉X.ex->b∉ch:=λb o e hx hb=>by
  rcases(mJ b hb).1 with z|z
  ·exact hx z
  ·exact absurd (ay (az e) z) (bD _)
 have cellK:∀x c,X.env.cells.lookup x=some c->∀v,s.heap.IsCell c v->h'.IsCell c v:=λx c e v aZ=>by
  obtain⟨o,ho,hd⟩:=aZ;have sV:c∉ch:=λz=>(mJ c z).2.2.1 x c e rfl;by_cases hc:c∈X.fs
  ·obtain⟨sl,q⟩:=slot c o (I.pV x c e) hc sV ho (I.dS x c e);exact⟨_,q,hd⟩
  ·exact⟨o,keep c o (I.pV x c e) hc sV ho (I.dS x c e),hd⟩
 refine⟨I.ok,I.os,hg,⟨λb o e n hb hx=>?_,λb o e n hb hx=>?_,λb o e n hx=>?_,λb o e hx=>?_,λb xs e=>gS b xs (I.base.gS b xs e),λb o xs e=>gH b o xs (I.base.gH b o xs e),λb ps e=>?_⟩,?_,λx c e=>?_,?_,λx c e=>?_,λp hp=>?_,bz,I.len,I.sg⟩
 ·exact keep b o (DK b o e) hb (qz b o e hx) (I.base.keep b o e n hb hx) (I.base.free b o e n hx)
 ·obtain⟨sl,e1⟩:=I.base.slot b o e n hb hx;obtain⟨Ld,e2⟩:=slot b _ (DK b o e) hb (qz b o e hx) e1 (I.base.free b o e n hx);exact⟨Ld,e2⟩
 ·obtain⟨o',e1⟩:=I.base.there b o e hx;exact free b o' (qz b o e hx) e1 (I.base.free b o e n hx)
 ·obtain⟨o',e1⟩:=I.base.there b o e hx;exact there b o' (qz b o e hx) e1
 ·obtain⟨m1,e1⟩:=I.base.gT b ps e;obtain⟨m2,e2⟩:=gT b _ e1;exact⟨m1++m2,by rw[e2,Array.append_assoc]⟩
 ·obtain⟨m,hn,hl⟩:=I.loc;refine⟨m,ns m hn,λi x v e1 e2 e3=>?_⟩;obtain⟨u,r,l⟩:=hl i x v e1 e2 e3;refine⟨u,r,?_⟩;rcases l with l|⟨k,c,e,z⟩
  ·exact .inl l
  ·exact .inr ⟨k,c,e,cellK x c e _ z⟩
 ·obtain⟨v,z⟩:=I.cell x c e;exact⟨v,cellK x c e v z⟩
 ·obtain⟨m,⟨o,_,_,ho,_⟩,_⟩:=I.loc;exact free _ o (λz=>(mJ _ z).2.1 rfl) ho I.free
 ·obtain⟨v,o,ho,hd⟩:=I.cell x c e;exact free c o (λz=>(mJ c z).2.2.1 x c e rfl) ho (I.dS x c e)
 ·obtain⟨e,n,ne,nf,d⟩:=I.pin p hp;have sV:p.1∉ch:=λz=>(mJ p.1 z).2.2.2 p hp rfl;exact⟨keep p.1 p.2 ne nf sV e n,free p.1 p.2 sV e n,ne,nf,d⟩
theorem Inv.un{t':Nat}(I:Inv X pins Z H s)(u:Un X.fs [] H H' s.heap h')(bz:fA X.prog X.w H' h'):Inv X pins Z H' { s with heap:=h',toks:=t' }:=by
 obtain⟨m,⟨o,es,ep,ho,r⟩,_⟩:=id I.loc;obtain⟨sl,hL⟩:=u.any ho I.free (by simp);exact I.step (g':=s.gens) (d':=s.drawn) (ch:=[]) (λ_ z=>nomatch z) (λb o _ hb _ e n=>u.keep b o e n hb (by simp)) (λb o _ hb _ e n=>u.slot b o e n hb (by simp)) (λb o _ e n=>u.free b o e n (by simp)) (λb o _ e=>u.there b o e (by simp)) u.gS u.gH u.gT (λm' hm=>by
  obtain⟨o',wD,Al,mG,r'⟩:=hm;rw[ho] at mG;cases mG;exact ⟨_,wD,Al,hL,r'⟩) bz I.bare
theorem Inv.call{g':Array GenState}{t':Nat}{d':Drawn}(I:Inv X pins Z H s)(u:Un (fm X.stack) ch H H' s.heap h')(bz:fA X.prog X.w H' h')(hg:AllBare g')(mJ:∀b∈ch,(b∈X.ex\/X.cV.heap.objs.size<=b)/\b≠X.env.locals/\(∀x c,X.env.cells.lookup x=some c->c≠b)/\∀p∈X.pn++pins,p.1≠b) :
  Inv X pins Z H' { s with heap:=h',gens:=g',drawn:=d',toks:=t' }:=by
 obtain⟨m,⟨o,es,ep,ho,r⟩,_⟩:=id I.loc;obtain⟨sl,hL⟩:=u.any ho I.free λz=>(mJ _ z).2.1 rfl;exact I.step (ch:=ch) mJ (λb o hL hb hc e n=>u.keep b o e n (λz=>(aC.mp (I.T6 b z)).elim hL hb) hc) (λb o _ _ hc e n=>u.any e n hc) (λb o hc e n=>u.free b o e n hc) (λb o hc e=>u.there b o e hc) u.gS u.gH u.gT (λm' hm=>by
  obtain⟨o',wD,Al,mG,r'⟩:=hm;rw[ho] at mG;cases mG;exact ⟨_,wD,Al,hL,r'⟩) bz hg
theorem Inv.turned{t':Nat}{it:Addr}(I:Inv X pins Z H s)(k:∀b o,b≠it->s.heap.get? b=some o->h'.get? b=some o)(hn:H it=none)(hL:it≠X.env.locals)(h1:it∈X.ex\/X.cV.heap.objs.size<=it)(h2:∀x c,X.env.cells.lookup x=some c->c≠it)(h3:∀p∈X.pn++pins,p.1≠it):Inv X pins Z H { s with heap:=h',toks:=t' }:=by
 have DJ:∀b u,H b=some u->b≠it:=λb u e z=>by simp_all
 refine I.step (g':=s.gens) (d':=s.drawn) (ch:=[it]) (λb hb=>?_) (λb o _ _ hc e _=>k b o (λz=>hc (by simp[z])) e) (λb o _ _ hc e _=>⟨o.slots,k b o (λz=>hc (by simp[z])) e⟩) (λ_ _ _ _ n=>n)
  (λb o hc e=>⟨o,k b o (λz=>hc (by simp[z])) e⟩) (λ_ _ e=>e) (λ_ _ _ e=>e) (λb ps e=>⟨#[],by rw[e];simp⟩) (λm hm=>?_) (λb u e=>?_) I.bare
 ·have e:b=it:=by simpa using hb
  subst e;exact⟨h1,hL,h2,h3⟩
 ·obtain⟨o,es,ep,ho,r⟩:=hm;exact⟨o,es,ep,k _ o (bf hL) ho,r⟩
 ·refine(I.bz b u e).A7 (λc v hc q=>k c v ?_ q) (λ_ q=>q) λ_ _ q=>q;rcases hc with z|z
  ·rw[z];exact DJ b u e
  ·exact DJ c _ z
theorem Inv.tok(I:Inv X pins Z H s)(t:Nat):Inv X pins Z H { s with toks:=t }:=I.un (h':=s.heap) (t':=t) Un.refl I.bz
theorem Inv.kept{t':Nat}(I:Inv X pins Z H s)(k:∀b u,s.heap.get? b=some u->h'.get? b=some u):Inv X pins Z H { s with heap:=h',toks:=t' }:=I.un (Un.kept k) (I.bz.kept k)
theorem Inv.laid{a:Addr}{o:HO}{t':Nat}(I:Inv X pins Z H s)(k:∀b u,s.heap.get? b=some u->h'.get? b=some u)(hp:s.heap.objs.size<=a)(new:j4 X.prog X.w (upd H a o) h' a o) :
  Inv X pins Z (upd H a o) { s with heap:=h',toks:=t' }:=I.un (Un.laid k hp (I.bz.fresh hp)) (I.bz.laid k hp new)
theorem Inv.write{x e:Addr}{o:HO}{t':Nat}(I:Inv X pins Z H s)(mu:vz (H x))(he:e=x\/H e=some (.own x))(k:∀b u,b≠e->s.heap.get? b=some u->h'.get? b=some u)(pI:∃u,h'.get? e=some u)(new:j4 X.prog X.w (upd H x o) h' x o):Inv X pins Z (upd H x o) { s with heap:=h',toks:=t' }:=I.un (Un.write mu he k pI) (I.bz.write mu he k pI new)
theorem Inv.weak{bT:List (Option V)}(hs:X.sg=none)(I:Inv X pins Z H s)(hl:bT.length=Z.length)(w:∀(i:Nat) v,bT[i]?=some (some v)->Z[i]?=some (some v)):Inv X pins bT H s :=
 ⟨I.ok,I.os,I.bare,I.base,let ⟨m,hn,tM⟩:=I.loc;⟨m,hn,λi x v e1 e2 e3=>tM i x v e1 (w i v e2) e3⟩,I.cell,I.free,I.dS,I.pin,I.bz,hl.trans I.len,λ_ z=>by simp_all⟩
theorem Inv.ve{eK:List (Addr×Obj)}(I:Inv X pins Z H s)(h:∀p∈eK,s.heap.get? p.1=some p.2/\H p.1=none/\p.1≠X.env.locals/\p.1∉X.fs/\∀v,p.2.data≠.cell v):Inv X eK Z H s :=
 ⟨I.ok,I.os,I.bare,I.base,I.loc,I.cell,I.free,I.dS,λp hp=>(bA.mp hp).elim (λz=>I.pin p (dE _ z)) (h p),I.bz,I.len,I.sg⟩
theorem JF(hN:N.Nodup){j:Nat}(a:N[i]?=some x)(b:N[j]?=some x):i=j:=by
 obtain⟨h1,e1⟩:=ao.mp a;obtain⟨h2,e2⟩:=ao.mp b;exact(List.getElem_inj hN).mp (e1.trans e2.symm)
theorem BC{Q:Unit->Shared->Prop}(I:Inv X pins Z H s)(hN:X.Nd)(hi:X.N[i]?=some x)(hx:Loc X.env.scope x)(r:RelV v u)(h:∀s',Inv X pins (Z.set i (some v)) H s'->(∃a,Heap.SameBut a s.heap s'.heap/\(a=X.env.locals\/X.env.cells.lookup x=some a))->Q Unit.unit s')(hf:X.fn x=true\/X.env.scope.names.lookup x=some .local:=by first|exact .inl rfl|exact .inr rfl|assumption):wpAny M A (storeName X.env x u) Q E s:=by
 obtain⟨m,hn,hl⟩:=id I.loc;have nF:(X.env.scope.kind==.class||(X.env.scope.kind==.module&&X.env.locals != X.env.globals))=false:=by rw[I.ok.kind];rfl
 have tP:i<Z.length:=by rw[I.len];exact(ao.mp hi).1
 have pV:=I.pV;have tracked:∀{a:Addr} {h':Heap},(∃o,s.heap.get? a=some o/\H a=none)->Heap.SameBut a s.heap h'->fA X.prog X.w H h':=λ{a h'} ha hs b ob e=>by
  obtain⟨_,_,ot⟩:=ha;refine(I.bz b ob e).A7 (λc w' hc q=>(hs.2 c ?_).trans q) (λ_ q=>q) λ_ _ q=>q;rintro rfl;rcases hc with rfl|hc
  ·rw[ot] at e;cases e
  ·rw[ot] at hc;cases hc
 rcases hx with hk|hk
 ·refine wpAny_storeName_local hk hn (λh' Mm hs=>?_) nF;obtain⟨oL,_,_,kF,_⟩:=id hn;refine h _ ⟨I.ok,I.os,I.bare,⟨λb o e n hb hx=>?_,λb o e n hb hx=>?_,I.base.free,λb o e hx=>?_,I.base.gS,I.base.gH,I.base.gT⟩,⟨_,Mm,λj y v' e1 e2 e3=>?_⟩,λy c e=>?_,I.free,I.dS,λp hp=>?_,tracked ⟨oL,kF,I.free⟩ hs,by simpa using I.len,λ_ z=>by rw[hN.2] at z;cases z⟩ ⟨_,hs,.inl rfl⟩
  ·exact(hs.2 b (aJ (ay (az e) I.ok.above))).trans (I.base.keep b o e n hb hx)
  ·obtain⟨sl,e1⟩:=I.base.slot b o e n hb hx;exact⟨sl,(hs.2 b (aJ (ay (az e) I.ok.above))).trans e1⟩
  ·obtain⟨o',e1⟩:=I.base.there b o e hx;exact⟨o',(hs.2 b (aJ (ay (az e) I.ok.above))).trans e1⟩
  ·by_cases hj:j=i
   ·subst hj;rw[hi] at e1;cases e1;rw[aY tP] at e2;cases e2;exact⟨u,r,.inl ⟨hk,by simp⟩⟩
   ·rw[aB (bf hj)] at e2;obtain⟨u',r',q⟩:=hl j y v' e1 e2 e3;refine⟨u',r',?_⟩;rcases q with⟨k,e⟩|⟨k,c,e,z⟩
    ·refine .inl ⟨k,?_⟩;have:y≠x:=λe=>hj (JF hN.1 e1 (e▸hi));simp[this,e]
    ·exact .inr ⟨k,c,e,z.sameBut hs (pV y c e)⟩
  ·obtain⟨w',z⟩:=I.cell y c e;exact⟨w',z.sameBut hs (pV y c e)⟩
  ·obtain⟨e,n,ne,nf,d⟩:=I.pin p hp;exact⟨(hs.2 p.1 ne).trans e,n,ne,nf,d⟩
 ·have qO:X.fn x=true:=by
   simp_all
  obtain⟨c,hc⟩:=I.ok.has x (.inl hk);obtain⟨w',z⟩:=I.cell x c hc;refine wpAny_storeName_cell I.ok.kind hk hc z (λh' mK hs=>?_);obtain⟨oc,yV,yU⟩:=id z;refine h { s with heap:=h' } ⟨I.ok,I.os,I.bare,⟨λb o e n hb hx=>?_,λb o e n hb hx=>?_,I.base.free,λb o e hx=>?_,I.base.gS,I.base.gH,I.base.gT⟩,⟨m,hn.sameBut hs (bf (pV x c hc)),λj y v' e1 e2 e3=>?_⟩,λy c' e=>?_,I.free,I.dS,λp hp=>?_,tracked ⟨oc,yV,I.dS x c hc⟩ hs,by simpa using I.len,λ_ z=>by rw[hN.2] at z;cases z⟩ ⟨c,hs,.inr hc⟩
  ·exact(hs.2 b (aJ (ay (az e) (I.ok.fI x c qO hc)))).trans (I.base.keep b o e n hb hx)
  ·obtain⟨sl,e1⟩:=I.base.slot b o e n hb hx;exact⟨sl,(hs.2 b (aJ (ay (az e) (I.ok.fI x c qO hc)))).trans e1⟩
  ·obtain⟨o',e1⟩:=I.base.there b o e hx;exact⟨o',(hs.2 b (aJ (ay (az e) (I.ok.fI x c qO hc)))).trans e1⟩
  ·by_cases hj:j=i
   ·subst hj;rw[hi] at e1;cases e1;rw[aY tP] at e2;cases e2;exact⟨u,r,.inr ⟨.inl hk,c,hc,mK⟩⟩
   ·rw[aB (bf hj)] at e2;obtain⟨u',r',q⟩:=hl j y v' e1 e2 e3;refine⟨u',r',?_⟩;rcases q with q|⟨k,c',e,z'⟩
    ·exact .inl q
    ·refine .inr ⟨k,c',e,z'.sameBut hs ?_⟩;rintro rfl;exact hj (JF hN.1 e1 (I.ok.inj _ _ _ e hc▸hi))
  ·by_cases qP:c'=c
   ·subst qP;exact⟨_,mK⟩
   ·obtain⟨w2,z2⟩:=I.cell y c' e;exact⟨w2,z2.sameBut hs qP⟩
  ·obtain⟨e,n,ne,nf,d⟩:=I.pin p hp;refine⟨(hs.2 p.1 ?_).trans e,n,ne,nf,d⟩;intro q;rw[q,yV] at e;have q':oc=p.2:=aD e;exact d w' (by rw[<- q'];exact yU)
theorem Bm{Q:Unit->Shared->Prop}(I:Inv X pins Z H s)(hN:X.Nd)(hi:X.N[i]?=some x)(hx:Loc X.env.scope x)(r:RelV v u)(h:∀s',Inv X pins (Z.set i (some v)) H s'->Q Unit.unit s')(hf:X.fn x=true\/X.env.scope.names.lookup x=some .local:=by first|exact .inl rfl|exact .inr rfl|assumption):wpAny M A (storeName X.env x u) Q E s :=
 BC I hN hi hx r (λs' I' _=>h s' I') hf
theorem Inv.BX{s':Shared}(I:Inv X pins Z H s)(ho:s'.os=s.os)(u:Un (fm X.stack) ch H H' s.heap s'.heap)(bz:fA X.prog X.w H' s'.heap)(hg:AllBare s'.gens)(mJ:∀b∈ch,(b∈X.ex\/X.cV.heap.objs.size<=b)/\b≠X.env.locals/\(∀x c,X.env.cells.lookup x=some c->c≠b)/\∀p∈X.pn++pins,p.1≠b):Inv X pins Z H' s':=by
 obtain⟨h',g',d',t',o'⟩:=s';have e:o'=s.os:=ho;subst e;exact I.call (g':=g') (t':=t') (d':=d') u bz hg mJ
end
noncomputable abbrev XK:=Value->Option Addr->Hp->Prop
noncomputable abbrev St:=List (Option V)
noncomputable abbrev VK:=V->Hp->Prop
noncomputable abbrev TE:=St->Hp->VK->Prop
noncomputable abbrev TT:=St->Hp->(Bool->Hp->Prop)->Prop
noncomputable abbrev TA:=St->Hp->(List V->Hp->Prop)->Prop
structure Ends where
 nx:St->Hp->Prop
 rt:VK
 bk:St->Hp->Prop:=λ_ _=>False
 ct:St->Hp->Prop:=λ_ _=>False
noncomputable abbrev TS:=Ends->St->Hp->Prop
def EP(X:Cx)(pins:List (Addr×Obj))(Z:St)(Q:VK)(u:Value)(s':Shared):Prop:=∃v H',Inv X pins Z H' s'/\RelV v u/\Q v H'
def TP(X:Cx)(pins:List (Addr×Obj))(Z:St)(Q:Bool->Hp->Prop)(b:Bool)(s':Shared):Prop:=∃H',Inv X pins Z H' s'/\Q b H'
def AP(X:Cx)(pins:List (Addr×Obj))(Z:St)(Q:List V->Hp->Prop)(us:List Value)(s':Shared):Prop:=∃vs H',Inv X pins Z H' s'/\Vals vs us/\Q vs H'
def SP(X:Cx)(pins:List (Addr×Obj))(D:Ends)(f:Flow)(s':Shared):Prop :=
 match f with
 |.next=>∃bT H',Inv X pins bT H' s'/\D.nx bT H'
 |.brk=>∃bT H',Inv X pins bT H' s'/\D.bk bT H'
 |.cont=>∃bT H',Inv X pins bT H' s'/\D.ct bT H'
 |.ret u=>∃v bT H',Inv X pins bT H' s'/\RelV v u/\D.rt v H'
def PE(X:Cx)(e:Expr)(t:TE):Prop :=
 ∀(pins:List (Addr×Obj)) (s:Shared) (Z:St) (H:Hp) (Q:VK),Inv X pins Z H s->t Z H Q->wpAny (model X.prog X.w) X.A (eval e X.env) (EP X pins Z Q) X.xe s
def PT(X:Cx)(e:Expr)(t:TT):Prop :=
 ∀(pins:List (Addr×Obj)) (s:Shared) (Z:St) (H:Hp) (Q:Bool->Hp->Prop),Inv X pins Z H s->t Z H Q->wpAny (model X.prog X.w) X.A (isTrue e X.env (eval e X.env)) (TP X pins Z Q) X.xe s
def PW(X:Cx)(e:Expr)(t:TT):Prop :=
 ∀(whole:Sem Value) (pins:List (Addr×Obj)) (s:Shared) (Z:St) (H:Hp) (Q:Bool->Hp->Prop),Inv X pins Z H s->t Z H Q->wpAny (model X.prog X.w) X.A (isTrue e X.env whole) (TP X pins Z Q) X.xe s
theorem PW.pt{t:TT}(h:PW X e t):PT X e t:=h _
def PA(X:Cx)(es:List Expr)(t:TA):Prop :=
 ∀(pos:Pos) (pins:List (Addr×Obj)) (s:Shared) (Z:St) (H:Hp) (Q:List V->Hp->Prop),Inv X pins Z H s->t Z H Q->wpAny (model X.prog X.w) X.A (spliced (backTo pos (starEach es X.env))) (AP X pins Z Q) X.xe s
def PS(X:Cx)(st:Stmt)(t:TS):Prop :=
 ∀(pins:List (Addr×Obj)) (s:Shared) (Z:St) (H:Hp) (D:Ends),Inv X pins Z H s->t D Z H->wpAny (model X.prog X.w) X.A (exec st X.env) (SP X pins D) X.xe s
def iy(X:Cx)(st:List Stmt)(t:TS):Prop :=
 ∀(pins:List (Addr×Obj)) (s:Shared) (Z:St) (H:Hp) (D:Ends),Inv X pins Z H s->t D Z H->wpAny (model X.prog X.w) X.A (execs st X.env) (SP X pins D) X.xe s
theorem cq{t:Sem α}{Q Q':α->Shared->Prop}(h:wpAny M A t Q E s)(hQ:∀a s,Q a s->Q' a s):wpAny M A t Q' E s:=aU h hQ λ_ _ x=>x
section
theorem bin{a b:Expr}(ha:PE X a ta)(hb:PE X b tb){R:V->V->Hp->Prop}(I:Inv X pins Z H s)(h:ta Z H λx H1=>tb Z H1 λy H2=>R x y H2){Q:α->Shared->Prop}{f:Value->Value->Sem α}(hf:∀v u s2 x y H2,Inv X pins Z H2 s2->RelV x v->RelV y u->R x y H2->wpAny (model X.prog X.w) X.A (f v u) Q X.xe s2) :
  wpAny (model X.prog X.w) X.A (eval a X.env) (λv bp=>wpAny (model X.prog X.w) X.A (eval b X.env) (λu ee=>wpAny (model X.prog X.w) X.A (f v u) Q X.xe ee) X.xe bp) X.xe s:=by
 refine cq (ha pins s Z H _ I h) λv s1 aZ=>?_;obtain⟨x,H1,I1,r1,q1⟩:=aZ;refine cq (hb pins s1 Z H1 _ I1 q1) λu s2 aZ=>?_;obtain⟨y,H2,I2,r2,q2⟩:=aZ;exact hf v u s2 x y H2 I2 r1 r2 q2
def Y3(i:Nat):TE:=λZ H Q=>∃v,Z[i]?=some (some v)/\Q v H
def tC(v:V):TE:=λ_ H Q=>Q v H
theorem Kq(hN:X.N[i]?=some x)(hv:vp X.env.scope x)(hd:(x==("__debug__":Str))=false:=by decide)(kH:(x==("__classdict__":Str))=false:=by decide):PE X (.Name x pos) (Y3 i):=by
 intro pins s Z H Q I h;obtain⟨v,e,h⟩:=h;obtain⟨m,hn,hl⟩:=I.loc;obtain⟨u,r,l⟩:=hl i x v hN e hv;have fin:EP X pins Z Q u s:=⟨v,H,I,r,h⟩
 rcases l with⟨hk,hm⟩|⟨hk,c,hc,kh⟩
 ·exact wpAny_Name (wpAny_loadName_local I.ok.kind hk hn hm fin) hd
 ·rcases hk with hk|hk
  ·exact wpAny_Name (wpAny_loadName_cell I.ok.kind hk hc kh fin) hd
  ·exact wpAny_Name (wpAny_loadName_free I.ok.kind hk hc kh fin kH) hd
theorem XB{i j pos}:PE X (.Constant (.int i) j pos) (tC (.int i)):=λ_ _ _ H _ I h=>wpAny_Constant_int ⟨.int i,H,I.tok _,⟨_,rfl⟩,h⟩
theorem VL{b j pos}:PE X (.Constant (.bool b) j pos) (tC (.bl b)):=λ_ _ _ H _ I h=>Constant_bool ⟨.bl b,H,I,rfl,h⟩
theorem XD{j pos}:PE X (.Constant .none j pos) (tC .bc):=λ_ _ _ H _ I h=>Constant_none ⟨.bc,H,I,rfl,h⟩
theorem XG{x j pos}:PE X (.Constant (.str x) j pos) (tC (.str x)):=λ_ _ _ H _ I h=>Calls.Constant_str ⟨.str x,H,I.tok _,⟨_,rfl⟩,h⟩
def Gl(X:Cx)(x:Str):Prop:=X.env.kindOf x=some .globalImplicit
theorem N9(I:Inv X pins Z H s)(hg:Gl X x)(hm:X.mg x=some u)(h:Q u s)(hd:(x==("__debug__":Str))=false:=by decide):wpAny (model X.prog X.w) X.A (eval (.Name x pos) X.env) Q E s :=
 yb I.ok.kind hg (Calls.loadGlobal_global (by rw[I.ok.glob];exact I.mod.glob.keeps I.bk) hm h) hd
theorem M3(I:Inv X pins Z H s)(hg:Gl X x)(hm:X.mg x=none)(hv:bootBuiltins x=some u)(h:Q u s)(hn:x≠"__name__":=by decide)(hd:(x==("__debug__":Str))=false:=by decide):wpAny (model X.prog X.w) X.A (eval (.Name x pos) X.env) Q E s:=by
 obtain⟨mb,h1,h2⟩:=I.mod.blt;exact yb I.ok.kind hg (Calls.loadGlobal_builtin (by rw[I.ok.glob];exact I.mod.glob.keeps I.bk) hm (by rw[I.ok.blt];exact h1.keeps I.bk) ((h2 x hn).trans hv) h) hd
theorem IY(hg:Gl X x)(hm:X.mg x=some u)(r:RelV v u)(hd:(x==("__debug__":Str))=false:=by decide):PE X (.Name x pos) (tC v) :=
 λ_ _ _ H _ I h=>N9 I hg hm ⟨v,H,I,r,h⟩ hd
theorem Qj(hg:Gl X x)(hm:X.mg x=none)(hv:bootBuiltins x=some u)(r:RelV v u)(hn:x≠"__name__":=by decide)(hd:(x==("__debug__":Str))=false:=by decide):PE X (.Name x pos) (tC v) :=
 λ_ _ _ H _ I h=>M3 I hg hm hv ⟨v,H,I,r,h⟩ hn hd
variable{a b:Expr}
variable{tA vQ:TT}{rest:List Expr}
def Ul(t u:TT):TT:=λZ H Q=>t Z H λc H1=>if c=true then u Z H1 Q else Q false H1
def KW(t u:TT):TT:=λZ H Q=>t Z H λc H1=>if c=true then Q true H1 else u Z H1 Q
def Ut(t:TT):TT:=λZ H Q=>t Z H λc H1=>Q (!c) H1
theorem Qy(ha:PT X a tA):PW X (.BoolOp .And [a] pos) tA:=by
 intro wh pins s Z H Q I h;refine isTrue_and (cq (ha pins s Z H Q I h) λc s1 e=>?_);cases c with
 |true=>exact isTrue_and_nil e
 |false=>exact e
theorem XW(ha:PT X a tA):PW X (.BoolOp .Or [a] pos) tA:=by
 intro wh pins s Z H Q I h;refine isTrue_or (cq (ha pins s Z H Q I h) λc s1 e=>?_);cases c with
 |false=>exact isTrue_or_nil e
 |true=>exact e
theorem XU(ha:PT X a tA)(hb:PW X (.BoolOp .And (b::rest) pos) vQ):PW X (.BoolOp .And (a::b::rest) pos) (Ul tA vQ):=by
 intro wh pins s Z H Q I h;refine isTrue_and (cq (ha pins s Z H _ I h) λc s1 ⟨H1,I1,q1⟩=>?_);cases c with
 |true=>exact hb wh pins s1 Z H1 Q I1 q1
 |false=>exact⟨H1,I1,q1⟩
theorem VS(ha:PT X a tA)(hb:PW X (.BoolOp .Or (b::rest) pos) vQ):PW X (.BoolOp .Or (a::b::rest) pos) (KW tA vQ):=by
 intro wh pins s Z H Q I h;refine isTrue_or (cq (ha pins s Z H _ I h) λc s1 ⟨H1,I1,q1⟩=>?_);cases c with
 |true=>exact⟨H1,I1,q1⟩
 |false=>exact hb wh pins s1 Z H1 Q I1 q1
theorem XT(ha:PT X a tA):PT X (.UnaryOp .Not a pos) (Ut tA):=by
 intro pins s Z H Q I h;exact isTrue_not (ha pins s Z H (λc H1=>Q (!c) H1) I h)
def Wf(ta tb:TE):TE:=λZ H Q=>ta Z H λx H1=>∃c,x=.bl c/\if c=true then tb Z H1 Q else Q (.bl false) H1
def Uu(ta tb:TE):TE:=λZ H Q=>ta Z H λx H1=>∃c,x=.bl c/\if c=true then Q (.bl true) H1 else tb Z H1 Q
def Wj(ta:TE):TE:=λZ H Q=>ta Z H λx H1=>∃c,x=.bl c/\Q (.bl (!c)) H1
theorem XF{op}{t:TE}(h:PE X a t):PE X (.BoolOp op [a] pos) t:=λpins s Z H Q I hw=>BoolOp_one (h pins s Z H Q I hw)
theorem Xy(ha:PE X a ta)(hb:PE X (.BoolOp .And (b::rest) pos) tb):PE X (.BoolOp .And (a::b::rest) pos) (Wf ta tb):=by
 intro pins s Z H Q I h;refine BoolOp_and (cq (ha pins s Z H _ I h) λv s1 aZ=>?_);obtain⟨x,H1,I1,r1,q1⟩:=aZ;obtain⟨c,rfl,q1⟩:=q1;cases r1;refine cv ?_;cases c with
 |true=>exact hb pins s1 Z H1 Q I1 q1
 |false=>exact⟨.bl false,H1,I1,rfl,q1⟩
theorem VO(ha:PE X a ta)(hb:PE X (.BoolOp .Or (b::rest) pos) tb):PE X (.BoolOp .Or (a::b::rest) pos) (Uu ta tb):=by
 intro pins s Z H Q I h;refine BoolOp_or (cq (ha pins s Z H _ I h) λv s1 aZ=>?_);obtain⟨x,H1,I1,r1,q1⟩:=aZ;obtain⟨c,rfl,q1⟩:=q1;cases r1;refine cv ?_;cases c with
 |false=>exact hb pins s1 Z H1 Q I1 q1
 |true=>exact⟨.bl true,H1,I1,rfl,q1⟩
theorem XE(ha:PE X a ta):PE X (.UnaryOp .Not a pos) (Wj ta):=by
 intro pins s Z H Q I h;refine UnaryOp_ (cq (ha pins s Z H _ I h) λv s1 aZ=>?_);obtain⟨x,H1,I1,r1,q1⟩:=aZ;obtain⟨c,rfl,q1⟩:=q1;cases r1;exact not_of (cv ⟨.bl (!c),H1,I1,rfl,q1⟩)
def KY(t:TT)(ta tb:TE):TE:=λZ H Q=>t Z H λc H1=>if c=true then ta Z H1 Q else tb Z H1 Q
theorem Sm(hc:PT X c tA)(ha:PE X a ta)(hb:PE X b tb):PE X (.IfExp c a b pos) (KY tA ta tb):=by
 intro pins s Z H Q I h;refine wpAny_IfExp (cq (hc pins s Z H _ I h) λd s1 ⟨H1,I1,q1⟩=>?_);cases d with
 |true=>exact ha pins s1 Z H1 Q I1 q1
 |false=>exact hb pins s1 Z H1 Q I1 q1
end
def eQ(K:PySem.W.Frag)(H:Hp)(a:Addr)(xs:List V):Prop :=
 Rd H a (.lst xs) \/
  ∃(o:Obj) (aX:Array Value) (n:Nat),K.lookup a=some o/\o.cls=.type "list"/\o.dict=none/\o.data=.seq aX n/\aX.size<=sizeLine/\Vals xs aX.toList
def gY(K:PySem.W.Frag)(H:Hp)(a:Addr)(xs:List V):Prop :=
 Rd H a (.tup xs) \/
  ∃(o:Obj) (aX:Array Value) (n:Nat),K.lookup a=some o/\o.cls=.type "tuple"/\o.data=.seq aX n/\aX.size<=sizeLine/\Vals xs aX.toList
def SN:Value->Option V
 |.none=>some .bc
 |.bool b=>some (.bl b)
 |.int i _=>some (.int i)
 |.str x _=>some (.str x)
 |.bytes b _=>some (.kj b)
 |.float b _=>some (.pU b)
 |.ref a=>some (.ref a)
 |.type n=>some (.ty n)
 |_=>none
theorem RelV.abs{x:V}(r:RelV x u):SN u=some x:=by
 cases x with
 |bc=>cases r;rfl
 |bl _=>cases r;rfl
 |int _=>obtain⟨t,rfl⟩:=r;rfl
 |str _=>obtain⟨t,rfl⟩:=r;rfl
 |kj _=>obtain⟨t,rfl⟩:=r;rfl
 |pU _=>obtain⟨t,rfl⟩:=r;rfl
 |ref _=>cases r;rfl
 |ty _=>cases r;rfl
theorem RelV.inj{x y:V}{u:Value}(r:RelV x u)(q:RelV y u):x=y:=aD (r.abs.symm.trans q.abs)
theorem Vals.inj{xs ys:List V}{us:List Value}(h:Vals xs us)(h':Vals ys us):xs=ys:=by
 induction h generalizing ys with
 |nil=>cases h';rfl
 |cons r t ih =>
  cases h' with
  |cons r' t'=>rw[r.inj r',ih t']
section
variable{ys:List V}
theorem eQ.of(h:H a=some (.lst xs)):eQ K H a xs:=.inl (.inl h)
theorem Inv.list(I:Inv X pins Z H s)(h:eQ X.K H a xs):∃aX:List Value,Vals xs aX/\PlainL s.heap a aX.toArray/\xs.length<=sizeLine:=by
 rcases h with h|⟨o,aX,n,hk,hc,hd,hs,hz,r⟩
 ·obtain⟨z,aX,n,r,e⟩:=h.ok I.bz;exact⟨aX,r,⟨_,n,e,rfl,rfl,rfl⟩,z⟩
 ·refine⟨aX.toList,r,⟨o,n,I.fS a o hk,hc,hd,by simpa using hs⟩,?_⟩;have e:=r.length
  grind
theorem Inv.tuple(I:Inv X pins Z H s)(h:gY X.K H a xs):∃aX:List Value,Vals xs aX/\IsTup s.heap a aX.toArray/\xs.length<=sizeLine:=by
 rcases h with h|⟨o,aX,n,hk,hc,hs,hz,r⟩
 ·obtain⟨z,aX,r,p⟩:=h.ok I.bz;exact⟨aX,r,p.tup,z⟩
 ·refine⟨aX.toList,r,⟨o,I.fS a o hk,hc,n,by simpa using hs⟩,?_⟩;have e:=r.length;simp only[Array.length_toList] at e;omega
theorem Inv.Bi(I:Inv X pins Z H s)(h:eQ X.K H a xs)(h':eQ X.K H a ys):xs=ys:=by
 obtain⟨aX,r,⟨o,n,e,_,_,d⟩,_⟩:=I.list h;obtain⟨its',r',⟨o',n',e',_,_,d'⟩,_⟩:=I.list h';rw[e] at e';cases e';rw[d] at d';injection d' with d1 _;have:aX=its':=by simpa using dX Array.toList d1
 subst this;exact r.inj r'
theorem Inv.Yw(I:Inv X pins Z H s)(h:gY X.K H a xs)(h':gY X.K H a ys):xs=ys:=by
 obtain⟨aX,r,⟨o,e,_,n,d⟩,_⟩:=I.tuple h;obtain⟨its',r',⟨o',e',_,n',d'⟩,_⟩:=I.tuple h';rw[e] at e';cases e';rw[d] at d';injection d' with d1 _;have:aX=its':=by simpa using dX Array.toList d1
 subst this;exact r.inj r'
end
noncomputable abbrev Cx.nV(X:Cx)(E:Value->Shared->Prop):Cx:={ X with xe:=E }
theorem Cx.Ok.nV{X:Cx}(ok:X.Ok)(E:Value->Shared->Prop):(X.nV E).Ok :=
 ⟨ok.mod,ok.kind,ok.glob,ok.blt,ok.above,ok.inj,ok.has,ok.fI,ok.hd,ok.frames,ok.ph,ok.ui,ok.bs,ok.mf,ok.jq,ok.jV,ok.K7,ok.mO⟩
theorem Cx.Ok.CN(ok:(X.nV E).Ok):X.Ok :=
 ⟨ok.mod,ok.kind,ok.glob,ok.blt,ok.above,ok.inj,ok.has,ok.fI,ok.hd,ok.frames,ok.ph,ok.ui,ok.bs,ok.mf,ok.jq,ok.jV,ok.K7,ok.mO⟩
theorem Inv.nV(I:Inv X pins Z H s)(E:Value->Shared->Prop):Inv (X.nV E) pins Z H s:=⟨I.ok.nV E,I.os,I.bare,I.base,I.loc,I.cell,I.free,I.dS,I.pin,I.bz,I.len,I.sg⟩
theorem Inv.CN(I:Inv (X.nV E) pins Z H s):Inv X pins Z H s:=⟨I.ok.CN,I.os,I.bare,I.base,I.loc,I.cell,I.free,I.dS,I.pin,I.bz,I.len,I.sg⟩
section
variable{st:Stmt}{rest:List Stmt}{t u:TS}
def FY:TS:=λD Z H=>D.nx Z H
def Uw(t u:TS):TS:=λD Z H=>t { D with nx:=u D } Z H
theorem Qw:iy X [] FY:=λ_ _ Z H _ I h=>jf ⟨Z,H,I,h⟩
theorem SA(h1:PS X st t)(h2:iy X rest u):iy X (st::rest) (Uw t u):=by
 intro pins s Z H D I h;refine wpAny_execs_cons (cq (h1 pins s Z H { D with nx:=u D } I h) λf s1 q=>?_);cases f with
 |next =>
  obtain⟨bT,H',I',q⟩:=q;exact h2 pins s1 bT H' D I' q
 |ret v=>exact q
 |brk=>exact q
 |cont=>exact q
theorem Qu:PS X (.Pass pos) FY:=λ_ _ Z H _ I h=>wpAny_Pass ⟨Z,H,I,h⟩
theorem Inv.quiet(I:Inv X pins Z H s):interactive X.env=false:=by simp[interactive,I.ok.kind]
def Wi(te:TE):TS:=λD Z H=>te Z H λ_ H1=>D.nx Z H1
theorem Qt(he:PE X e te)(hs:swapsWith e none pos.line X.env=pure false:=by rfl):PS X (.Expr e pos) (Wi te):=by
 intro pins s Z H D I h;exact wpAny_Expr_any (cq (he pins s Z H _ I h) λv s1 ⟨x,H1,I1,r1,q1⟩=>⟨Z,H1,I1,q1⟩) I.quiet hs
def Uv(te:TE):TS:=λD Z H=>te Z H D.rt
theorem XR(he:PE X e te):PS X (.Return (some e) pos) (Uv te):=by
 intro pins s Z H D I h;exact wpAny_Return_some (cq (he pins s Z H _ I h) λv s1 ⟨x,H1,I1,r1,q1⟩=>⟨x,Z,H1,I1,r1,q1⟩)
def Wl:TS:=λD _ H=>D.rt .bc H
theorem Qv:PS X (.Return none pos) Wl:=λ_ _ Z H _ I h=>wpAny_Return_none ⟨.bc,Z,H,I,rfl,h⟩
def Ur(c:TT)(t u:TS):TS:=λD Z H=>c Z H λb H1=>if b=true then t D Z H1 else u D Z H1
theorem VR{a b:List Stmt}{tc:TT}(hc:PT X c tc)(ha:iy X a t)(hb:iy X b u):PS X (.If c a b pos) (Ur tc t u):=by
 intro pins s Z H D I h;refine wpAny_If (cq (hc pins s Z H _ I h) λd s1 ⟨H1,I1,q1⟩=>?_);cases d with
 |true=>exact ha pins s1 Z H1 D I1 q1
 |false=>exact hb pins s1 Z H1 D I1 q1
end
noncomputable abbrev TG:=V->St->Hp->(St->Hp->Prop)->Prop
noncomputable abbrev oR:=List V->St->Hp->(St->Hp->Prop)->Prop
def PG(X:Cx)(target:Expr)(t:TG):Prop :=
 ∀(pins:List (Addr×Obj)) (s:Shared) (Z:St) (H:Hp) (v:V) (u:Value) (Q:St->Hp->Prop),Inv X pins Z H s->RelV v u->t v Z H Q ->
  wpAny (model X.prog X.w) X.A (assign target X.env u) (λ_ s'=>∃bT H',Inv X pins bT H' s'/\Q bT H') X.xe s
def vy(X:Cx)(ts:List Expr)(t:oR):Prop :=
 ∀(pins:List (Addr×Obj)) (s:Shared) (Z:St) (H:Hp) (vs:List V) (us:List Value) (Q:St->Hp->Prop),Inv X pins Z H s->Vals vs us->t vs Z H Q ->
  wpAny (model X.prog X.w) X.A (assignInOrder ((assignEach ts X.env).map (·.2)) us) (λ_ s'=>∃bT H',Inv X pins bT H' s'/\Q bT H') X.xe s
noncomputable abbrev AA:=V->V->V->Hp->(Hp->Prop)->Prop
def Az(X:Cx)(t:AA):Prop :=
 ∀(pins:List (Addr×Obj)) (s:Shared) (Z:St) (H:Hp) (o i v:V) (ov iv u:Value) (Q:Hp->Prop),Inv X pins Z H s->RelV o ov->RelV i iv->RelV v u->t o i v H Q ->
  wpAny (model X.prog X.w) X.A (setItem ov iv u) (λ_ s'=>∃H',Inv X pins Z H' s'/\Q H') X.xe s
noncomputable abbrev Dc:=V->V->Hp->VK->Prop
def Kt(X:Cx)(op:Operator)(t:Dc):Prop :=
 ∀(pins:List (Addr×Obj)) (s:Shared) (Z:St) (H:Hp) (x y:V) (v u:Value) (Q:VK),Inv X pins Z H s->RelV x v->RelV y u->t x y H Q ->
  wpAny (model X.prog X.w) X.A (inplaceOp op v u) (EP X pins Z Q) X.xe s
def X9(i:Nat):TG:=λv Z H Q=>Q (Z.set i (some v)) H
theorem IZ(hN:X.Nd)(hi:X.N[i]?=some x)(hx:Loc X.env.scope x)(hf:X.fn x=true\/X.env.scope.names.lookup x=some .local:=by first|exact .inl rfl|exact .inr rfl|assumption):PG X (.Name x pos) (X9 i):=by
 intro pins s Z H v u Q I r h;exact mV (Bm I hN hi hx r (λs' I'=>⟨_,H,I',h⟩) hf)
def Gm:oR:=λvs Z H Q=>vs=[]/\Q Z H
def Fz(t:TG)(u:oR):oR:=λvs Z H Q=>∃v r,vs=v::r/\t v Z H λbT H'=>u r bT H' Q
theorem Qq:vy X [] Gm:=by
 intro pins s Z H vs us Q I r h;obtain⟨e,h⟩:=h;exact assignInOrder_nil ⟨Z,H,I,h⟩
theorem Ss{t:TG}{u:oR}(h1:PG X e t)(h2:vy X es u)(hs:(assignEach (e::es) X.env).map (·.2)=assign e X.env::(assignEach es X.env).map (·.2):=by rfl):vy X (e::es) (Fz t u):=by
 intro pins s Z H vs us Q I r h;obtain⟨v,vr,e1,h⟩:=h;subst e1;cases r with
 |cons r rr =>
  rw[hs];refine assignInOrder_cons (cq (h1 pins s Z H _ _ _ I r h) λ_ s1 aZ=>?_);obtain⟨hZ,H1,I1,q1⟩:=aZ;exact h2 pins s1 hZ H1 _ _ Q I1 rr q1
def AH(K:PySem.W.Frag)(n:Nat)(t:oR):TG:=λv Z H Q=>∃a xs,v=.ref a/\gY K H a xs/\xs.length=n/\t xs Z H Q
theorem CG{t:oR}{n:Nat}(hc:X.calm=true)(h:vy X es t)(hn:(assignEach es X.env).length=n:=by rfl)(eP:(assignEach es X.env).findIdx? (·.1)=none:=by rfl):PG X (.Tuple es k pos) (AH X.K n t):=by
 intro pins s Z H v u Q I r hw;obtain⟨a,xs,e1,hq,hl,hw⟩:=hw;subst e1;cases r;obtain⟨aX,rv,ht,hz⟩:=I.tuple hq;refine assign_Tuple_tuple (I.ok.hd hc) ht (by simp[hn,<- hl,rv.length]) eP λh' hx=>?_;have I1:Inv X pins Z H { s with heap:=h' }:=I.kept (t':=s.toks) λb o e=>hx b o (aJ (az e)) e;exact h pins _ Z H xs _ Q I1 (by simpa using rv) hw
def Te(to ti:TE)(t:AA):TG:=λv Z H Q=>to Z H λo H1=>ti Z H1 λi H2=>t o i v H2 λH3=>Q Z H3
theorem XI{o i:Expr}{to ti:TE}{t:AA}(ho:PE X o to)(hi:PE X i ti)(hs:Az X t)(ha:∀ v,assign (.Subscript o i pos) X.env v=(do
   let ov <- holding [v] (eval o X.env)
   let iv <- holding [v,ov] (eval i X.env)
   standAt pos
   holding [v,ov,iv] (setItem ov iv v)
   release [v,ov,iv] []):=by intro _;rfl):PG X (.Subscript o i pos) (Te to ti t):=by
 intro pins s Z H v u Q I r h;rw[ha];refine ae (bq (cq (ho pins s Z H _ I h) λov s1 aZ=>?_));obtain⟨x,H1,I1,r1,q1⟩:=aZ;refine ae (bq (cq (hi pins s1 Z H1 _ I1 q1) λiv s2 aZ=>?_));obtain⟨y,H2,I2,r2,q2⟩:=aZ;refine ae (cP (ae (bq (cq (hs pins s2 Z H2 x y v ov iv u _ I2 r1 r2 r q2) λ_ s3 ⟨H3,I3,q3⟩=>?_))));exact wpAny_release ⟨Z,H3,I3,q3⟩
def rE(te:TE)(g:TG):TS:=λD Z H=>te Z H λx H1=>g x Z H1 D.nx
theorem Kr{g:TG}(he:PE X e te)(hg:PG X tg g)(hs:swapsWithSole [tg] e pos.line X.env=pure false:=by rfl)(hw:swappedStores [tg] e X.env=pure none:=by rfl)(h1:(assignEach [tg] X.env).map (·.2)=[assign tg X.env]:=by rfl):PS X (.Assign [tg] e pos) (rE te g):=by
 intro pins s Z H D I h;refine wpAny_Assign_stores (cq (he pins s Z H _ I h) λv s1 aZ=>?_) hs hw;obtain⟨x,H1,I1,r1,q1⟩:=aZ;rw[h1];exact cq (hg pins s1 Z H1 x v _ I1 r1 q1) λ_ s2 q=>q
theorem CH(hN:X.Nd)(hi:X.N[i]?=some x)(hx:Loc X.env.scope x)(he:PE X e te)(hs:swapsWith e (some (.Name x pos')) pos.line X.env=pure false:=by rfl)(hf:X.fn x=true\/X.env.scope.names.lookup x=some .local:=by first|exact .inl rfl|exact .inr rfl|assumption) :
  PS X (.Assign [.Name x pos'] e pos) (rE te (X9 i)):=by
 intro pins s Z H D I h;refine wpAny_Assign_Name (cq (he pins s Z H _ I h) λv s1 aZ=>?_) hs;obtain⟨y,H1,I1,r1,q1⟩:=aZ;exact Bm I1 hN hi hx r1 (λs2 I2=>⟨_,H1,I2,q1⟩) hf
def Um(i:Nat)(te:TE)(ti:Dc):TS:=λD Z H=>∃x,Z[i]?=some (some x)/\te Z H λy H1=>ti x y H1 λz H2=>D.nx (Z.set i (some z)) H2
theorem XN{op:Operator}{ti:Dc}(hN:X.Nd)(hi:X.N[i]?=some x)(hx:Loc X.env.scope x)(he:PE X e te)(ho:Kt X op ti)(hf:X.fn x=true\/X.env.scope.names.lookup x=some .local:=by first|exact .inl rfl|exact .inr rfl|assumption) :
  PS X (.AugAssign (.Name x pos') op e pos) (Um i te ti):=by
 intro pins s Z H D I h;obtain⟨v,e1,h⟩:=h;obtain⟨m,hn,hl⟩:=I.loc;have oZ:vp X.env.scope x:=by rcases hx with k|k;exact .inl k;exact .inr (.inl k)
 obtain⟨u,r,l⟩:=hl i x v hi e1 oZ;refine wpAny_AugAssign_Name ?_;have go:wpAny (model X.prog X.w) X.A (eval e X.env) (λw ee=>wpAny (model X.prog X.w) X.A (inplaceOp op u w) (λr du=>wpAny (model X.prog X.w) X.A (storeName X.env x r) (λ_=>SP X pins D .next) X.xe du) X.xe ee) X.xe s:=by
  refine cq (he pins s Z H _ I h) λw s1 aZ=>?_;obtain⟨y,H1,I1,r1,q1⟩:=aZ;refine cq (ho pins s1 Z H1 v y u w _ I1 r r1 q1) λz s2 aZ=>?_;obtain⟨zv,H2,I2,r2,q2⟩:=aZ;exact Bm I2 hN hi hx r2 (λs3 I3=>⟨_,H2,I3,q2⟩) hf
 rcases l with⟨hk,hm⟩|⟨hk,c,hc,kh⟩
 ·exact wpAny_loadName_local I.ok.kind hk hn hm go
 ·rcases hk with hk|hk
  ·exact wpAny_loadName_cell I.ok.kind hk hc kh go
  ·rcases hx with k|k
   ·have:X.env.scope.names.lookup x=some .free:=hk;rw[k] at this;cases this
   ·have:X.env.scope.names.lookup x=some .free:=hk;rw[k] at this;cases this
def OL(c:TT)(tb:TS):TS:=λD Z H=>∃W:Nat->St->Hp->Prop,(∃m,W m Z H)/\∀m Z H,W m Z H ->
 c Z H λb H1=>if b=true then ∃N:St->Hp->Prop,(∀bT H',N bT H'->∃m',m'<m/\W m' bT H')/\tb { D with nx:=N,ct:=N,bk:=D.nx } Z H1 else D.nx Z H1
theorem Sz{tc:TT}{tb:TS}(hp:PassesOwn (model X.prog X.w) X.A X.env X.xe)(hc:PT X c tc)(hb:iy X body tb):PS X (.While c body [] pos) (OL tc tb):=by
 intro pins s Z H D I h;obtain⟨W,⟨m0,w0⟩,turn⟩:=h;refine wpAny_While (codeAny_whileLoop (λn s'=>∃bT H',Inv X pins bT H' s'/\W n bT H') ?_ m0 ⟨Z,H,I,w0⟩);rintro n s1 ⟨hZ,H1,I1,w1⟩;refine dD hp (cq (hc pins s1 hZ H1 _ I1 (turn n hZ H1 w1)) λb s2 ⟨H2,I2,q2⟩=>?_);cases b with
 |true =>
  obtain⟨N,hN,q2⟩:=q2;refine dD hp (cq (hb pins s2 hZ H2 _ I2 q2) λf s3 q3=>?_);cases f with
  |next =>
   obtain⟨hX,H3,I3,n3⟩:=q3;obtain⟨m',hm,w3⟩:=hN hX H3 n3;exact⟨m',hm,hX,H3,I3,w3⟩
  |cont =>
   obtain⟨hX,H3,I3,n3⟩:=q3;obtain⟨m',hm,w3⟩:=hN hX H3 n3;exact⟨m',hm,hX,H3,I3,w3⟩
  |brk=>exact q3
  |ret v=>exact q3
 |false =>
  exact jf ⟨hZ,H2,I2,q2⟩
structure It where
 go:Nat->Hp->Prop
 mq:Nat->Hp->V->Hp->Prop
 stop:Nat->Hp->Prop
def C4(X:Cx)(pins:List (Addr×Obj))(H:Hp)(b:Addr):Prop :=
 H b=none/\b≠X.env.locals/\b∉X.fs/\(b∈X.ex\/X.cV.heap.objs.size<=b)/\(∀x c,X.env.cells.lookup x=some c->c≠b)/\∀p∈X.pn++pins,p.1≠b
theorem Inv.Z2(I:Inv X pins Z H s)(hb:s.heap.objs.size<=b)(hn:H' b=none):C4 X pins H' b:=by
 refine⟨hn,bw (ay I.lt hb),I.AK hb,.inr (aA I.sz hb),λx c e z=>?_,λp hp z=>?_⟩
 ·obtain⟨v,q⟩:=I.cell x c e;exact absurd (ay q.lt (by simp_all)) (bD _)
 ·exact absurd (ay (az (I.pin p hp).1) (by simp_all)) (bD _)
structure Turn(P:Program)(w:World)(K:PySem.W.Frag)(tg:Expr)(J:It)(fp:List Addr)(it:Addr)(tn:Nat->Heap->Prop):Prop where
 mem:it∈fp
 obj:∀i h,tn i h->∀b∈fp,∃o,h.get? b=some o/\∀v,o.data≠.cell v
 keep:∀i h h',tn i h->(∀b∈fp,∀o,h.get? b=some o->h'.get? b=some o)->tn i h'
 item:∀(X:Cx),X.prog=P->X.w=w->X.K=K->X.calm=true->∀(i:Nat) (pins:List (Addr×Obj)) (s:Shared) (Z:St) (H:Hp) (E:Value->Shared->Prop),Inv X pins Z H s->(∀b∈fp,C4 X pins H b)->tn i s.heap->J.go i H ->
  wpAny (model P w) X.A (pyNext (.ref it)) (λr s1=>∃ u,r=some u /\
   wpAny (model P w) X.A (letOwnedTupleGo tg (.ref it) u) (λ_ s2=>∃ x H',Inv X pins Z H' s2/\RelV x u/\J.mq i H x H'/\tn (i + 1) s2.heap/\∀ b ∈ fp,H' b=none) E s1) E s
 done:∀(X:Cx),X.prog=P->X.w=w->X.K=K->X.calm=true->∀(i:Nat) (pins:List (Addr×Obj)) (s:Shared) (Z:St) (H:Hp) (E:Value->Shared->Prop),Inv X pins Z H s->(∀b∈fp,C4 X pins H b)->tn i s.heap->J.stop i H ->
  wpAny (model P w) X.A (pyNext (.ref it)) (λr s1=>r=none/\Inv X pins Z H s1) E s
 self:∀(A:Around) (i:Nat) (s:Shared) (Q:Value->Shared->Prop) (E:Value->Shared->Prop),tn i s.heap->Q (.ref it) s->wpAny (model P w) A (pyIter (.ref it)) Q E s
noncomputable abbrev TI:=St->Hp->(It->Hp->Prop)->Prop
def Ku(X:Cx)(pins:List (Addr×Obj))(Z:St)(tg:Expr)(R:It->Hp->Prop)(pF:Value)(s2:Shared):Prop :=
 ∃(it:Addr) (fp:List Addr) (tn:Nat->Heap->Prop) (J:It) (H':Hp),pF=.ref it/\Inv X pins Z H' s2/\Turn X.prog X.w X.K tg J fp it tn/\tn 0 s2.heap/\(∀b∈fp,C4 X pins H' b)/\R J H'
def PI(X:Cx)(tg iter:Expr)(wi:TI):Prop :=
 ∀(pins:List (Addr×Obj)) (s:Shared) (Z:St) (H:Hp) (R:It->Hp->Prop),Inv X pins Z H s->wi Z H R ->
  wpAny (model X.prog X.w) X.A (eval iter X.env) (λv s1=>wpAny (model X.prog X.w) X.A (pyIter v) (Ku X pins Z tg R) X.xe s1) X.xe s
theorem xK{it:Addr}{o:Obj}{n:String}{vs:Array Value}{Q:Unit->Shared->Prop}(ho:s.heap.get? it=some o)(hc:o.cls=.type n)(hd:o.data=.fields vs)(hn:["enumerate","zip","dict_itemiterator","dict_reverseitemiterator","odict_iterator","itertools.zip_longest","itertools.pairwise"].contains n=false)(hQ:Q Unit.unit s):wpAny M A (letOwnedTupleGo tg (.ref it) u) Q E s:=by
  cases tg<;>first
    |exact aj hQ
    | (cases u <;> first
        |exact aj hQ
        | (refine ae (wpAny_load ho ?_)
           rw[hc,hd];show wpAny M A (if(["enumerate","zip","dict_itemiterator","dict_reverseitemiterator","odict_iterator","itertools.zip_longest","itertools.pairwise"].contains n&&vs[0]?==some (rawInt _))=true then _ else _) Q E s;rw[aG (by intro h;rw[hn,ng] at h;cases h)];exact aj hQ))
def Df(K:PySem.W.Frag)(a:Addr):It :=
 ⟨λi H=>∃xs x,eQ K H a xs/\xs[i]?=some x,λi H x H'=>H'=H/\∀xs,eQ K H a xs->xs[i]?=some x,λi H=>∃xs,eQ K H a xs/\xs.length<=i⟩
def De(K:PySem.W.Frag)(a:Addr):It :=
 ⟨λi H=>∃xs x,gY K H a xs/\xs[i]?=some x,λi H x H'=>H'=H/\∀xs,gY K H a xs->xs[i]?=some x,λi H=>∃xs,gY K H a xs/\xs.length<=i⟩
def vB(lo:Int)(n:Nat):It:=⟨λi _=>i<n,λi H x H'=>H'=H/\x=.int (lo+i),λi _=>n<=i⟩
theorem Yy(a it:Addr):Turn P w K tg (Df K a) [it] it (λi h=>h.IsListIter it a i) where
 mem:=by simp
 obj:=λi h st b hb=>by
  have e:b=it:=by simpa using hb
  subst e;obtain⟨o,e,c,d⟩:=st;exact⟨o,e,λv z=>by simp_all⟩
 keep:=λi h h' st k=>st.at λo e=>k it (by simp) o e
 item:=by
  intro X hP hw hK hc i pins s Z H E I hf st hg;subst hP hw hK;obtain⟨xs,x,hq,hx⟩:=hg;obtain⟨aX,rv,p,hz⟩:=I.list hq;obtain⟨u,hu,ru⟩:=rv.get hx;obtain⟨f0,f1,f2,f3,f4,f5⟩:=hf it (by simp);refine wpAny_pyNext_list_item st p.isList (x:=u) (by simpa using hu) λh' kT sb=>?_;have I1:Inv X pins Z H { s with heap:=h' }:=I.turned (t':=s.toks) (λb o hb e=>(sb.2 b hb).trans e) f0 f1 f3 f4 f5;obtain⟨o,e,c,d⟩:=id kT;exact⟨u,rfl,xK (s:={ s with heap:=h' }) e c d ∅ ⟨x,H,I1,ru,⟨rfl,λys hy=>by rw[I.Bi hy hq];exact hx⟩,kT,λb hb=>(hf b hb).1⟩⟩
 done:=by
  intro X hP hw hK hc i pins s Z H E I hf st hg;subst hP hw hK;obtain⟨xs,hq,hx⟩:=hg;obtain⟨aX,rv,p,hz⟩:=I.list hq;obtain⟨f0,f1,f2,f3,f4,f5⟩:=hf it (by simp);have hl:=rv.length;exact wpAny_pyNext_list_end (I.ok.hd hc) st p.isList (by simp;omega) λh' eb=>⟨rfl,I.turned (t':=s.toks) (λb o hb e=>eb b o hb e) f0 f1 f3 f4 f5⟩
 self:=λ_ _ _ _ _ st h=>wpAny_pyIter_listiter st h
theorem Zk(a it:Addr):Turn P w K tg (De K a) [it] it (λi h=>h.IsTupleIter it a i) where
 mem:=by simp
 obj:=λi h st b hb=>by
  have e:b=it:=by simpa using hb
  subst e;obtain⟨o,e,c,d⟩:=st;exact⟨o,e,λv z=>by simp_all⟩
 keep:=λi h h' st k=>st.at λo e=>k it (by simp) o e
 item:=by
  intro X hP hw hK hc i pins s Z H E I hf st hg;subst hP hw hK;obtain⟨xs,x,hq,hx⟩:=hg;obtain⟨aX,rv,p,hz⟩:=I.tuple hq;obtain⟨u,hu,ru⟩:=rv.get hx;obtain⟨f0,f1,f2,f3,f4,f5⟩:=hf it (by simp);refine wpAny_pyNext_tuple_item st (show s.heap.IsTuple a aX.toArray from p) (x:=u) (by simpa using hu) λh' kT sb=>?_;have I1:Inv X pins Z H { s with heap:=h' }:=I.turned (t':=s.toks) (λb o hb e=>(sb.2 b hb).trans e) f0 f1 f3 f4 f5;obtain⟨o,e,c,d⟩:=id kT;exact⟨u,rfl,xK (s:={ s with heap:=h' }) e c d ∅ ⟨x,H,I1,ru,⟨rfl,λys hy=>by rw[I.Yw hy hq];exact hx⟩,kT,λb hb=>(hf b hb).1⟩⟩
 done:=by
  intro X hP hw hK hc i pins s Z H E I hf st hg;subst hP hw hK;obtain⟨xs,hq,hx⟩:=hg;obtain⟨aX,rv,p,hz⟩:=I.tuple hq;obtain⟨f0,f1,f2,f3,f4,f5⟩:=hf it (by simp);have hl:=rv.length;exact wpAny_pyNext_tuple_end (I.ok.hd hc) st (show s.heap.IsTuple a aX.toArray from p) (by simp;omega) λh' eb=>⟨rfl,I.turned (t':=s.toks) (λb o hb e=>eb b o hb e) f0 f1 f3 f4 f5⟩
 self:=λ_ _ _ _ _ st h=>wpAny_pyIter_tupleiter st h
theorem Zi(it:Addr)(lo:Int)(n:Nat):Turn P w K tg (vB lo n) [it] it (λi h=>IsRangeIter h it (lo+(i:Nat)*1) ((n:Int)-(i:Nat)) 1) where
 mem:=by simp
 obj:=λi h st b hb=>by
  have e:b=it:=by simpa using hb
  subst e;exact ⟨_,st,λv z=>by
   have z':Data.fields _=Data.cell v:=z;cases z'⟩
 keep:=λi h h' st k=>k it (by simp) _ st
 item:=by
  intro X hP hw hK hc i pins s Z H E I hf st hg;subst hP hw hK;obtain⟨f0,f1,f2,f3,f4,f5⟩:=hf it (by simp);have W:=Walks.range (prog:=X.prog) (w:=X.w) (I.ok.hd hc) it lo 1 n;refine W.item i s _ _ hg st λv h' tk hv kT kk=>?_;obtain⟨t,rfl⟩:=hv;have I1:Inv X pins Z H { s with heap:=h',toks:=tk }:=I.turned (λb o hb e=>kk b o (by simpa using hb) e) f0 f1 f3 f4 f5;refine⟨_,rfl,xK (s:={ s with heap:=h',toks:=tk }) (n:="range_iterator") kT rfl rfl ∅ ⟨.int (lo+i),H,I1,⟨t,?_⟩,⟨rfl,rfl⟩,kT,λb hb=>(hf b hb).1⟩⟩;rw[Int.mul_one]
 done:=by
  intro X hP hw hK hc i pins s Z H E I hf st hg;subst hP hw hK;obtain⟨f0,f1,f2,f3,f4,f5⟩:=hf it (by simp);exact wpAny_pyNext_range_end (I.ok.hd hc) st (by have:n<=i:=hg;omega) λh' eb=>⟨rfl,I.turned (t':=s.toks) (λb o hb e=>eb b o hb e) f0 f1 f3 f4 f5⟩
 self:=λ_ _ _ _ _ st h=>wpAny_pyIter_rangeiter st h
theorem JL{R:It->Hp->Prop}{lo hi:Int}{t u v:Tok}{tk:Nat}(I:Inv X pins Z H s)(h1:-(2 ^ 62)<=lo)(h2:lo<2 ^ 62)(h3:-(2 ^ 62)<=hi)(h4:hi<2 ^ 62)(q:R (vB lo (hi-lo).toNat) H):wpAny (model X.prog X.w) X.A (pyIter (.ref s.heap.objs.size)) (Ku X pins Z tg R) E { s with heap:=s.heap.push { cls:=.type "range",data:=.fields #[.int lo t,.int hi u,.int 1 v] },toks:=tk }:=by
 refine wpAny_pyIter_range (IsRange.new ..) (small_one h1 h2 h3 h4) ?_;have I1:Inv X pins Z H { s with heap:=s.heap.push { cls:=.type "range",data:=.fields #[.int lo t,.int hi u,.int 1 v] },toks:=tk }:=I.kept λb o e=>ai _ e;refine ⟨(s.heap.push { cls:=.type "range",data:=.fields #[.int lo t,.int hi u,.int 1 v] }).objs.size,[(s.heap.push { cls:=.type "range",data:=.fields #[.int lo t,.int hi u,.int 1 v] }).objs.size],_,_,H,rfl,
  I1.kept (t':=tk) λb o e=>ai _ e,Zi _ lo (hi - lo).toNat,?_,λb hb=>?_,q⟩
 ·have e1:lo+((0:Nat):Int)*1=lo:=by simp
  have e2:(((hi-lo).toNat:Nat):Int)-((0:Nat):Int)=Builtin.Range.rangeSize lo hi 1:=by rw[rangeSize_one];split<;>omega
  rw[e1,e2];exact ax _ rfl
 ·have e:b=(s.heap.push { cls:=.type "range",data:=.fields #[.int lo t,.int hi u,.int 1 v] }).objs.size:=by simpa using hb
  subst e;exact I1.Z2 (au _) (I1.bz.fresh (au _))
def Ve(ta:TA):TI:=λZ H R=>ta Z H λvs H1=>∃j:Int,vs=[.int j]/\-(2 ^ 62)<=j/\j<2 ^ 62/\R (vB 0 j.toNat) H1
def Vf(ta:TA):TI:=λZ H R=>ta Z H λvs H1=>∃i j:Int,vs=[.int i,.int j]/\(-(2 ^ 62)<=i/\i<2 ^ 62/\-(2 ^ 62)<=j/\j<2 ^ 62)/\R (vB i (j-i).toNat) H1
theorem a08{a:Expr}{ta:TA}(hg:Gl X "range")(hm:X.mg "range"=none)(ha:PA X [a] ta)(hs:starEach [a] X.env=[(false,eval a X.env)]:=by rfl):PI X tg (.Call (.Name "range" p) [a] [] pos) (Ve ta):=by
 intro pins s Z H R I h;refine Call_ (M3 I hg hm boot_range (bG (cq (ha pos pins s Z H _ I h) λus s1 aZ=>?_) hs rfl));obtain⟨vs,H1,I1,r1,q1⟩:=aZ;obtain⟨j,e,q1,q2,q⟩:=q1;subst e;cases r1 with
 |cons r rr =>
  cases rr;obtain⟨t,rfl⟩:=r;exact call_range_1 (JL I1 () () q1 q2 (by simpa using q))
theorem a07{a b:Expr}{ta:TA}(hg:Gl X "range")(hm:X.mg "range"=none)(ha:PA X [a,b] ta)(hs:starEach [a,b] X.env=[(false,eval a X.env),(false,eval b X.env)]:=by rfl)(gG:starEach [b] X.env=[(false,eval b X.env)]:=by rfl) :
  PI X tg (.Call (.Name "range" p) [a,b] [] pos) (Vf ta):=by
 intro pins s Z H R I h;refine Call_ (M3 I hg hm boot_range (bG (cq (ha pos pins s Z H _ I h) λus s1 aZ=>?_) (by rw[hs,gG]) (by rw[gG];rfl)));obtain⟨vs,H1,I1,r1,q1⟩:=aZ;obtain⟨i,j,e,⟨q1,q2,q3,q4⟩,q⟩:=q1;subst e;cases r1 with
 |cons r rr =>
  cases rr with
  |cons r' rr =>
   cases rr;obtain⟨t,rfl⟩:=r;obtain⟨t',rfl⟩:=r';exact call_range_2 (JL I1 q1 q2 q3 q4 q)
def Uq(wi:TI)(g:TG)(tb:TS):TS:=λD Z H=>wi Z H λJ H1=>∃W:Nat->Nat->St->Hp->Prop,(∃m,W 0 m Z H1)/\∀i m Z H,W i m Z H ->
 (J.stop i H/\D.nx Z H)\/(J.go i H/\∃N:St->Hp->Prop,(∀bT H',N bT H'->∃m',m'<m/\W (i+1) m' bT H')/\∀x H',J.mq i H x H'->g x Z H' λcb H2=>tb { D with nx:=N,ct:=N,bk:=D.nx } cb H2)
def uW(fp:List Addr)(h:Heap):List (Addr×Obj):=fp.filterMap λb=>(h.get? b).map λo=>(b,o)
theorem BL{o:Obj}(hb:b∈fp)(e:h.get? b=some o):(b,o)∈uW fp h:=jk.mpr ⟨b,hb,by rw[e];rfl⟩
theorem a20{p:Addr×Obj}(hp:p∈uW fp h):p.1∈fp/\h.get? p.1=some p.2:=by
 obtain⟨b,hb,e⟩:=jk.mp hp;cases q:h.get? b with
 |none=>simp_all
 |some o =>
  rw[q] at e;have e':(b,o)=p:=aD e;subst e';exact⟨hb,q⟩
theorem Inv.pinned(I:Inv X pins Z H s)(hf:∀b∈fp,C4 X pins H b)(ho:∀b∈fp,∃o,s.heap.get? b=some o/\∀v,o.data≠.cell v):Inv X (pins++uW fp s.heap) Z H s :=
 I.ve λp hp=>(bA.mp hp).elim (λz=>I.pin p (bE _ z)) λz=>by
  obtain⟨hb,e⟩:=a20 z;obtain⟨f0,f1,f2,_⟩:=hf p.1 hb;obtain⟨o,e',d⟩:=ho p.1 hb;rw[e] at e';cases e';exact⟨e,f0,f1,f2,d⟩
theorem Inv.Bn{pl:List (Addr×Obj)}(I:Inv X (pins++pl) Z H s):Inv X pins Z H s:=I.ve λp hp=>I.pin p (bE _ (dE _ hp))
theorem XQ{iter:Expr}{wi:TI}{g:TG}{tb:TS}(hp:PassesOwn (model X.prog X.w) X.A X.env X.xe)(hc:X.calm=true)(hi:PI X tg iter wi)(hg:PG X tg g)(hb:iy X body tb)(hs:∀x,foldedSetIterable iter X.env x=pure x:=by intro _;rfl):PS X (.For tg iter body [] pos) (Uq wi g tb):=by
 intro pins s Z H D I h;refine wpAny_For (cq (hi pins s Z H _ I h) λv s1 h1=>cq h1 λpF s2 h2=>?_) hs;obtain⟨it,fp,tn,J,H2,e,I2,T,iD,f2,W,⟨m0,w0⟩,turn⟩:=h2;subst e;have pj:∀{H':Hp},(∀b∈fp,H' b=none)->∀b∈fp,C4 X pins H' b:=λhn b hb=>⟨hn b hb,(f2 b hb).2⟩
 refine codeAny_forLoop_any (λn s'=>∃i bT H',Inv X pins bT H' s'/\tn i s'.heap/\(∀b∈fp,H' b=none)/\W i n bT H') ?_ m0 ⟨0,Z,H2,I2,iD,λb hb=>(f2 b hb).1,w0⟩;rintro n s3 ⟨i,hX,H3,I3,sE,uh,w3⟩;rcases turn i n hX H3 w3 with⟨stop,qn⟩|⟨go,N,hN,step⟩
 ·refine dD hp (cq (T.done X rfl rfl rfl hc i pins s3 hX H3 X.xe I3 (pj uh) sE stop) λr s4 ⟨hr,I4⟩=>?_);subst hr;exact jf ⟨hX,H3,I4,qn⟩
 ·refine dD hp (cq (T.item X rfl rfl rfl hc i pins s3 hX H3 X.xe I3 (pj uh) sE go) λr s4 ⟨u,hr,h4⟩=>?_);subst hr;refine dD hp (cq h4 λ_ s5 aZ=>?_);obtain⟨x,H5,I5,r5,y5,pk,Ag⟩:=aZ;have Dh:=I5.pinned (pj Ag) (T.obj _ _ pk);refine dD hp (cq (hg _ s5 hX H5 x u _ Dh r5 (step x H5 y5)) λ_ s6 aZ=>?_);obtain⟨oY,H6,I6,q6⟩:=aZ;refine dD hp (cq (hb _ s6 oY H6 _ I6 q6) λf s7 q7=>?_);have again:∀{lC:St} {H7:Hp},Inv X (pins++uW fp s5.heap) lC H7 s7->N lC H7->∃m,m<n/\∃i bT H',Inv X pins bT H' s7/\tn i s7.heap/\(∀b∈fp,H' b=none)/\W i m bT H':=λ{lC H7} I7 n7=>by
   obtain⟨m',hm,w7⟩:=hN lC H7 n7;refine⟨m',hm,i+1,lC,H7,I7.Bn,T.keep _ _ _ pk λb hb o e=>(I7.pin (b,o) (bE _ (bE _ (BL hb e)))).1,λb hb=>?_,w7⟩;obtain⟨o,e,d⟩:=T.obj _ _ pk b hb;exact(I7.pin (b,o) (bE _ (bE _ (BL hb e)))).2.1
  cases f with
  |next=>obtain⟨lC,H7,I7,n7⟩:=q7;exact again I7 n7
  |cont=>obtain⟨lC,H7,I7,n7⟩:=q7;exact again I7 n7
  |brk=>obtain⟨lC,H7,I7,q7⟩:=q7;exact⟨lC,H7,I7.Bn,q7⟩
  |ret v=>obtain⟨x7,lC,H7,I7,r7,q7⟩:=q7;exact⟨x7,lC,H7,I7.Bn,r7,q7⟩
noncomputable abbrev R2:=V->V->Hp->VK->Prop
def fo(X:Cx)(f:Value->Value->Sem Value)(r:R2):Prop :=
 ∀(pins:List (Addr×Obj)) (s:Shared) (Z:St) (H:Hp) (x y:V) (v u:Value) (Q:VK),Inv X pins Z H s->RelV x v->RelV y u->r x y H Q ->
  wpAny (model X.prog X.w) X.A (f v u) (EP X pins Z Q) X.xe s
def xQ(X:Cx)(f:Value->Sem Value)(r:V->Hp->VK->Prop):Prop :=
 ∀(pins:List (Addr×Obj)) (s:Shared) (Z:St) (H:Hp) (x:V) (v:Value) (Q:VK),Inv X pins Z H s->RelV x v->r x H Q ->
  wpAny (model X.prog X.w) X.A (f v) (EP X pins Z Q) X.xe s
def j8(X:Cx)(f:Value)(r:List V->Hp->VK->Prop):Prop :=
 ∀(pins:List (Addr×Obj)) (s:Shared) (Z:St) (H:Hp) (xs:List V) (us:List Value) (Q:VK),Inv X pins Z H s->Vals xs us->r xs H Q ->
  wpAny (model X.prog X.w) X.A (call f us) (EP X pins Z Q) X.xe s
def SK(X:Cx)(r:V->Hp->(Bool->Hp->Prop)->Prop):Prop :=
 ∀(pins:List (Addr×Obj)) (s:Shared) (Z:St) (H:Hp) (x:V) (v:Value) (Q:Bool->Hp->Prop),Inv X pins Z H s->RelV x v->r x H Q ->
  wpAny (model X.prog X.w) X.A (truthy v) (TP X pins Z Q) X.xe s
def oh(r:R2)(ta tb:TE):TE:=λZ H Q=>ta Z H λx H1=>tb Z H1 λy H2=>r x y H2 Q
def KR(r:V->Hp->VK->Prop)(ta:TE):TE:=λZ H Q=>ta Z H λx H1=>r x H1 Q
def rI(C:Int->Int->Prop)(g:Int->Int->V):R2:=λx y H Q=>∃i j,x=.int i/\y=.int j/\C i j/\Q (g i j) H
def kW(g:Int->Int->V):R2:=λx y H Q=>∃i j,x=.int i/\y=.int j/\Q (g i j) H
def rU(g:Int->V):V->Hp->VK->Prop:=λx H Q=>∃i,x=.int i/\Q (g i) H
section
variable{a b:Expr}
theorem AF(ha:PE X a ta)(hb:PE X b tb){R:V->V->Hp->Prop}(I:Inv X pins Z H s)(h:ta Z H λx H1=>tb Z H1 λy H2=>R x y H2){f:Value->Value->Sem Value}(hf:∀v u s2 x y H2,Inv X pins Z H2 s2->RelV x v->RelV y u->R x y H2->wpAny (model X.prog X.w) X.A (f v u) Q X.xe s2) :
  wpAny (model X.prog X.w) X.A (eval a X.env) (λv bp=>wpAny (model X.prog X.w) X.A (eval b X.env) (λu ee=>wpAny (model X.prog X.w) X.A (f v u) Q X.xe ee) X.xe bp) X.xe s:=by
 refine cq (ha pins s Z H _ I h) λv s1 aZ=>?_;obtain⟨x,H1,I1,r1,q1⟩:=aZ;refine cq (hb pins s1 Z H1 _ I1 q1) λu s2 aZ=>?_;obtain⟨y,H2,I2,r2,q2⟩:=aZ;exact hf v u s2 x y H2 I2 r1 r2 q2
theorem VN{op:Operator}(ho:fo X (binaryOp op) r)(ha:PE X a ta)(hb:PE X b tb):PE X (.BinOp a op b pos) (oh r ta tb):=by
 intro pins s Z H Q I h;exact wpAny_BinOp (AF ha hb I h λv u s2 x y H2 I2 rx ry q=>ho pins s2 Z H2 x y v u Q I2 rx ry q)
theorem VP{op:UnaryOp}{r:V->Hp->VK->Prop}(ho:xQ X (unaryOp op) r)(ha:PE X a ta):PE X (.UnaryOp op a pos) (KR r ta):=by
 intro pins s Z H Q I h;exact UnaryOp_ (cq (ha pins s Z H _ I h) λv s1 ⟨x,H1,I1,r1,q1⟩=>ho pins s1 Z H1 x v Q I1 r1 q1)
theorem sN{f:Value->Value->Sem Value}{C:Int->Int->Prop}{g:Int->Int->Int}(rule:∀(i j:Int) (t u:Tok) (s:Shared) (Q:Value->Shared->Prop) (E:Value->Shared->Prop),C i j->Q (.int (g i j) s.toks) { s with toks:=s.toks+1 }->wpAny (model X.prog X.w) X.A (f (.int i t) (.int j u)) Q E s) :
  fo X f (rI C λi j=>.int (g i j)):=by
 intro pins s Z H x y v u Q I rx ry h;obtain⟨i,j,rfl,rfl,hc,q⟩:=h;obtain⟨t,rfl⟩:=rx;obtain⟨t',rfl⟩:=ry;exact rule i j t t' s _ _ hc ⟨.int (g i j),H,I.tok _,⟨_,rfl⟩,q⟩
theorem rD{f:Value->Value->Sem Value}{g:Int->Int->Int}(rule:∀(i j:Int) (t u:Tok) (s:Shared) (Q:Value->Shared->Prop) (E:Value->Shared->Prop),Q (.int (g i j) s.toks) { s with toks:=s.toks+1 }->wpAny (model X.prog X.w) X.A (f (.int i t) (.int j u)) Q E s) :
  fo X f (kW λi j=>.int (g i j)):=by
 intro pins s Z H x y v u Q I rx ry h;obtain⟨i,j,rfl,rfl,q⟩:=h;obtain⟨t,rfl⟩:=rx;obtain⟨t',rfl⟩:=ry;exact rule i j t t' s _ _ ⟨.int (g i j),H,I.tok _,⟨_,rfl⟩,q⟩
theorem xA{f:Value->Value->Sem Value}{g:Int->Int->Bool}(rule:∀(i j:Int) (t u:Tok) (s:Shared) (Q:Value->Shared->Prop) (E:Value->Shared->Prop),Q (.bool (g i j)) s->wpAny (model X.prog X.w) X.A (f (.int i t) (.int j u)) Q E s) :
  fo X f (kW λi j=>.bl (g i j)):=by
 intro pins s Z H x y v u Q I rx ry h;obtain⟨i,j,rfl,rfl,q⟩:=h;obtain⟨t,rfl⟩:=rx;obtain⟨t',rfl⟩:=ry;exact rule i j t t' s _ _ ⟨.bl (g i j),H,I,rfl,q⟩
def Ax(i j:Int):Prop:=0<j/\j<1073741824
def Z7(i j:Int):Prop:=0<=j/\j<=1000000/\i.natAbs<2 ^ 64
def pX(i j:Int):Prop:=(-(2 ^ 64)<i/\i<2 ^ 64)\/(-(2 ^ 64)<j/\j<2 ^ 64)
theorem pX.ok{i j:Int}(h:pX i j):IntMulOk i j:=by
 rcases h with⟨h1,h2⟩|⟨h1,h2⟩
 ·exact .of_left (intBits_le_64 h1 h2)
 ·exact .of_right (intBits_le_64 h1 h2)
theorem Xk:fo X (binaryOp .Add) (kW λi j=>.int (i+j)):=rD λ_ _ _ _ _ _ _ q=>add_int q
theorem Xu:fo X (binaryOp .Sub) (kW λi j=>.int (i-j)):=rD λ_ _ _ _ _ _ _ q=>sub_int q
theorem Xr:fo X (binaryOp .Mult) (rI pX λi j=>.int (i*j)):=sN λ_ _ _ _ _ _ _ hc q=>mul_int q hc.ok
theorem Qa:fo X (binaryOp .FloorDiv) (rI Ax λi j=>.int (i / j)):=sN λi j _ _ _ _ _ hc q=>by
 have h1:(0:Int)<j:=hc.1;have h2:j<1073741824:=hc.2;exact floordiv_int () (by rw[Int.fdiv_eq_ediv_of_nonneg i ()];exact q) (.inl (PyProof.noPylong_small ()))
theorem Xq:fo X (binaryOp .Mod) (rI (λ_ j=>0<j) λi j=>.int (i % j)):=sN λi j _ _ _ _ _ hc q=>by
 exact mod_int' () (by rw[Int.fmod_eq_emod_of_nonneg i ()];exact q)
theorem Xs:fo X (binaryOp .Pow) (rI Z7 λi j=>.int (i ^ j.toNat)):=sN λ_ _ _ _ _ _ _ hc q=>pow_int_small hc.1 hc.2.1 hc.2.2 q
theorem Xt:fo X (binaryOp .LShift) (rI Z7 λi j=>.int (i*2 ^ j.toNat)):=sN λ_ _ _ _ _ _ _ hc q=>lshift_int_small hc.1 hc.2.1 hc.2.2 q
theorem Xl:fo X (binaryOp .BitAnd) (kW λi j=>.int (Builtin.bitAnd i j)):=rD λ_ _ _ _ _ _ _ q=>and_int q
theorem VH:fo X (binaryOp .BitOr) (kW λi j=>.int (Builtin.bitOr i j)):=rD λ_ _ _ _ _ _ _ q=>or_int q
theorem Pp:fo X (inplaceOp .Add) (kW λi j=>.int (i+j)):=rD λ_ _ _ _ _ _ _ q=>iadd_int q
theorem Pq:fo X (inplaceOp .Sub) (kW λi j=>.int (i-j)):=rD λ_ _ _ _ _ _ _ q=>isub_int q
theorem KQ{f:Value->Sem Value}{g:Int->Int}(rule:∀(i:Int) (t:Tok) (s:Shared) (Q:Value->Shared->Prop) (E:Value->Shared->Prop),Q (.int (g i) s.toks) { s with toks:=s.toks+1 }->wpAny (model X.prog X.w) X.A (f (.int i t)) Q E s) :
  xQ X f (rU λi=>.int (g i)):=by
 intro pins s Z H x v Q I rx h;obtain⟨i,rfl,q⟩:=h;obtain⟨t,rfl⟩:=rx;exact rule i t s _ _ ⟨.int (g i),H,I.tok _,⟨_,rfl⟩,q⟩
theorem OQ:xQ X (unaryOp .USub) (rU λi=>.int (-i)):=KQ λ_ _ _ _ _ q=>neg_int q
end
def EZ:V->V->Bool
 |.bc,.bc=>true|.bc,.int _=>true|.int _,.bc=>true|.bc,.bl _=>true|.bl _,.bc=>true|.bc,.str _=>true|.str _,.bc=>true
 |.int _,.int _=>true|.bl _,.bl _=>true|.str _,.str _=>true|.kj _,.kj _=>true
 |.int _,.str _=>true|.str _,.int _=>true|.bl _,.str _=>true|.str _,.bl _=>true
 |_,_=>false
def Lh:R2:=λx y H Q=>EZ x y=true/\Q (.bl (decide (x=y))) H
def Lg:R2:=λx y H Q=>EZ x y=true/\Q (.bl (!decide (x=y))) H
theorem IE{i j:Int}:decide (V.int i=V.int j)=(i==j):=by
 rw[bh];simp
theorem wJ{i j:Bool}:decide (V.bl i=V.bl j)=(i==j):=by
 rw[bh];simp
theorem IF{i j:Str}:decide (V.str i=V.str j)=(i==j):=by
 rw[bh];simp
theorem ID{i j:Array UInt8}:decide (V.kj i=V.kj j)=(i.toList==j.toList):=by
 rw[bh];simp
section
variable{a b:Expr}{tc:TE}
theorem i7{Q:VK}{k k':Bool}(I:Inv X pins Z H s)(q:Q (.bl k) H)(e:k=k'):EP X pins Z Q (.bool k') s:=by
 subst e;exact⟨.bl k,H,I,rfl,q⟩
theorem Ci:fo X (compareOp .Eq) Lh:=by
 intro pins s Z H x y v u Q I rx ry h;obtain⟨hs,q⟩:=h;cases x with
 |bc =>
  cases rx;cases y with
  |bc=>cases ry;exact PySem.EqNone.eq_none_none (i7 I q (by simp))
  |bl j=>cases ry;exact PySem.EqNone.eq_none_bool (i7 I q (by simp))
  |int j=>obtain⟨t',rfl⟩:=ry;exact PySem.EqNone.eq_none_int (i7 I q (by simp))
  |str j=>obtain⟨t',rfl⟩:=ry;exact PySem.EqNone.eq_none_str (i7 I q (by simp))
  |_=>exact absurd (show false=true from hs) Bool.false_ne_true
 |bl i =>
  cases rx;cases y with
  |bc=>cases ry;exact PySem.EqNone.eq_bool_none (i7 I q (by simp))
  |bl j=>cases ry;exact eq_bool (i7 I q wJ)
  |str j=>obtain⟨t',rfl⟩:=ry;exact PySem.EqMixed.eq_bool_str (i7 I q (by simp))
  |_=>exact absurd (show false=true from hs) Bool.false_ne_true
 |int i =>
  obtain⟨t,rfl⟩:=rx;cases y with
  |bc=>cases ry;exact PySem.EqNone.eq_int_none (i7 I q (by simp))
  |int j=>obtain⟨t',rfl⟩:=ry;exact eq_int (i7 I q IE)
  |str j=>obtain⟨t',rfl⟩:=ry;exact PySem.EqMixed.eq_int_str (i7 I q (by simp))
  |_=>exact absurd (show false=true from hs) Bool.false_ne_true
 |str i =>
  obtain⟨t,rfl⟩:=rx;cases y with
  |bc=>cases ry;exact PySem.EqNone.eq_str_none (i7 I q (by simp))
  |bl j=>cases ry;exact PySem.EqMixed.eq_str_bool (i7 I q (by simp))
  |int j=>obtain⟨t',rfl⟩:=ry;exact PySem.EqMixed.eq_str_int (i7 I q (by simp))
  |str j=>obtain⟨t',rfl⟩:=ry;exact eq_str (i7 I q IF)
  |_=>exact absurd (show false=true from hs) Bool.false_ne_true
 |kj i =>
  obtain⟨t,rfl⟩:=rx;cases y with
  |kj j=>obtain⟨t',rfl⟩:=ry;exact PySem.W.eq_bytes (i7 I q ID)
  |_=>exact absurd (show false=true from hs) Bool.false_ne_true
 |_=>cases y<;>exact absurd (show false=true from hs) cA
theorem Cj:fo X (compareOp .NotEq) Lg:=by
 intro pins s Z H x y v u Q I rx ry h;obtain⟨hs,q⟩:=h;cases x with
 |bc =>
  cases rx;cases y with
  |bc=>cases ry;exact PySem.EqNone.ne_none_none (i7 I q (by simp))
  |bl j=>cases ry;exact PySem.EqNone.ne_none_bool (i7 I q (by simp))
  |int j=>obtain⟨t',rfl⟩:=ry;exact PySem.EqNone.ne_none_int (i7 I q (by simp))
  |str j=>obtain⟨t',rfl⟩:=ry;exact PySem.EqNone.ne_none_str (i7 I q (by simp))
  |_=>exact absurd (show false=true from hs) Bool.false_ne_true
 |bl i =>
  cases rx;cases y with
  |bc=>cases ry;exact PySem.EqNone.ne_bool_none (i7 I q (by simp))
  |bl j=>cases ry;exact ne_bool (i7 I q (congrArg not wJ))
  |str j=>obtain⟨t',rfl⟩:=ry;exact PySem.EqMixed.ne_bool_str (i7 I q (by simp))
  |_=>exact absurd (show false=true from hs) Bool.false_ne_true
 |int i =>
  obtain⟨t,rfl⟩:=rx;cases y with
  |bc=>cases ry;exact PySem.EqNone.ne_int_none (i7 I q (by simp))
  |int j=>obtain⟨t',rfl⟩:=ry;exact ne_int (i7 I q (congrArg not IE))
  |str j=>obtain⟨t',rfl⟩:=ry;exact PySem.EqMixed.ne_int_str (i7 I q (by simp))
  |_=>exact absurd (show false=true from hs) Bool.false_ne_true
 |str i =>
  obtain⟨t,rfl⟩:=rx;cases y with
  |bc=>cases ry;exact PySem.EqNone.ne_str_none (i7 I q (by simp))
  |bl j=>cases ry;exact PySem.EqMixed.ne_str_bool (i7 I q (by simp))
  |int j=>obtain⟨t',rfl⟩:=ry;exact PySem.EqMixed.ne_str_int (i7 I q (by simp))
  |str j=>obtain⟨t',rfl⟩:=ry;exact ne_str (i7 I q (congrArg not IF))
  |_=>exact absurd (show false=true from hs) Bool.false_ne_true
 |kj i =>
  obtain⟨t,rfl⟩:=rx;cases y with
  |kj j=>obtain⟨t',rfl⟩:=ry;exact PySem.W.ne_bytes (i7 I q (congrArg not ID))
  |_=>exact absurd (show false=true from hs) Bool.false_ne_true
 |_=>cases y<;>exact absurd (show false=true from hs) cA
theorem VG:fo X (compareOp .Lt) (kW λi j=>.bl (decide (i<j))):=xA λ_ _ _ _ _ _ _ q=>lt_int q
theorem VF:fo X (compareOp .LtE) (kW λi j=>.bl (decide (i<=j))):=xA λ_ _ _ _ _ _ _ q=>le_int q
theorem VE:fo X (compareOp .Gt) (kW λi j=>.bl (decide (j<i))):=xA λ_ _ _ _ _ _ _ q=>gt_int q
theorem VD:fo X (compareOp .GtE) (kW λi j=>.bl (decide (j<=i))):=xA λ_ _ _ _ _ _ _ q=>ge_int q
theorem Xp:fo X (compareOp .Is) (λx y H Q=>y=.bc/\Q (.bl (decide (x=.bc))) H):=by
 intro pins s Z H x y v u Q I rx ry h;obtain⟨rfl,q⟩:=h;cases ry;refine is_none_gen (i7 I q ?_);cases x<;>first
  |(cases rx;rfl)
  |(obtain⟨t,rfl⟩:=rx;rfl)
theorem Qb:fo X (compareOp .IsNot) (λx y H Q=>y=.bc/\Q (.bl (!decide (x=.bc))) H):=by
 intro pins s Z H x y v u Q I rx ry h;obtain⟨rfl,q⟩:=h;cases ry;refine isnot_none_gen (i7 I q ?_);cases x<;>first
  |(cases rx;rfl)
  |(obtain⟨t,rfl⟩:=rx;rfl)
theorem Ql(ho:fo X (compareOp op) r)(ha:PE X a ta)(hb:PE X b tb)(hm:behindInMarks op b=false):PE X (.Compare a [op] [b] pos) (oh r ta tb):=by
 intro pins s Z H Q I h;exact wpAny_Compare1 (AF ha hb I h λv u s2 x y H2 I2 rx ry q=>ho pins s2 Z H2 x y v u Q I2 rx ry q) hm
def uN(t:TE):TT:=λZ H Q=>t Z H λx H'=>∃k,x=.bl k/\Q k H'
theorem Jd(ho:fo X (compareOp op) r)(ha:PE X a ta)(hb:PE X b tb)(hm:behindInMarks op b=false):PT X (.Compare a [op] [b] pos) (uN (oh r ta tb)):=by
 intro pins s Z H Q I h;refine wpAny_isTrue_Compare1 (cq (ha pins s Z H _ I h) λv s1 ⟨x,H1,I1,r1,q1⟩=>cq (hb pins s1 Z H1 _ I1 q1) λu s2 ⟨y,H2,I2,r2,q2⟩ =>
  cq (ho pins s2 Z H2 x y v u _ I2 r1 r2 q2) λc s3 ⟨z,H3,I3,r3,k,e,q3⟩=>?_) hm
 subst e;cases r3;exact cv ⟨H3,I3,q3⟩
def CK(r r':R2)(ta tb tc:TE):TE:=λZ H Q=>ta Z H λx H1=>tb Z H1 λy H2=>r x y H2 λz H3=>∃k,z=.bl k /\
 (if k=true then tc Z H3 λw' H4=>r' y w' H4 Q else Q (.bl false) H3)
theorem Sk{gM:CmpOp}{r':R2}(ho:fo X (compareOp op) r)(mG:fo X (compareOp gM) r')(ha:PE X a ta)(hb:PE X b tb)(hc:PE X c tc)(hm:lastMarks [op,gM] [b,c]=false:=by with_unfolding_all rfl):PE X (.Compare a [op,gM] [b,c] pos) (CK r r' ta tb tc):=by
 intro pins s Z H Q I h;refine Compare_chain (cq (ha pins s Z H _ I h) λv s1 ⟨x,H1,I1,r1,q1⟩=>chain_link (cq (hb pins s1 Z H1 _ I1 q1) λu s2 ⟨y,H2,I2,r2,q2⟩ =>
  cq (ho pins s2 Z H2 x y v u _ I2 r1 r2 q2) λd s3 ⟨z,H3,I3,r3,k,e,q3⟩=>?_)) hm
 subst e;cases r3;refine cv ?_;cases k with
 |false=>exact ite_ff ⟨.bl false,H3,I3,rfl,q3⟩
 |true=>exact ite_tt (chain_last (cq (hc pins s3 Z H3 _ I3 q3) λw' s4 ⟨z',H4,I4,r4,q4⟩=>mG pins s4 Z H4 y z' u w' Q I4 r2 r4 q4))
theorem SD{gM:CmpOp}{r':R2}(ho:fo X (compareOp op) r)(mG:fo X (compareOp gM) r')(ha:PE X a ta)(hb:PE X b tb)(hc:PE X c tc)(hm:lastMarks [op,gM] [b,c]=false:=by with_unfolding_all rfl):PT X (.Compare a [op,gM] [b,c] pos) (uN (CK r r' ta tb tc)):=by
 intro pins s Z H Q I h;refine isTrue_chain (cq (ha pins s Z H _ I h) λv s1 ⟨x,H1,I1,r1,q1⟩=>test_link (cq (hb pins s1 Z H1 _ I1 q1) λu s2 ⟨y,H2,I2,r2,q2⟩ =>
  cq (ho pins s2 Z H2 x y v u _ I2 r1 r2 q2) λd s3 ⟨z,H3,I3,r3,k,e,q3⟩=>?_)) hm
 subst e;cases r3;refine cv ?_;cases k with
 |false =>
  obtain⟨k',e',q'⟩:=q3;cases e';exact ite_ff ⟨H3,I3,q'⟩
 |true =>
  refine ite_tt (test_last (cq (hc pins s3 Z H3 _ I3 q3) λw' s4 ⟨z',H4,I4,r4,q4⟩=>cq (mG pins s4 Z H4 y z' u w' _ I4 r2 r4 q4) λd' s5 aZ=>?_));obtain⟨z2,H5,I5,r5,k2,e2,q5⟩:=aZ;subst e2;cases r5;exact cv ⟨H5,I5,q5⟩
def AB(K:PySem.W.Frag)(x:V)(H:Hp)(k:Bool):Prop :=
 match x with
 |.bc=>k=false
 |.bl b=>k=b
 |.int i=>k=(i != 0)
 |.str y=>y.length<=sizeLine/\k=((y.length:Int) != 0)
 |.kj y=>y.size<=sizeLine/\k=((y.size:Int) != 0)
 |.ref p=>(∃xs,eQ K H p xs/\k=!xs.isEmpty)\/(∃xs,gY K H p xs/\k=!xs.isEmpty)\/∃kvs,H p=some (.dK kvs)/\k=!kvs.isEmpty
 |_=>False
theorem YL{κ:Type}{kvs:List (κ×V)}{vs:List (κ×Value)}(r:KV kvs vs):(!vs.isEmpty)=!kvs.isEmpty:=by
 cases r<;>rfl
theorem Hl{aX:List Value}(r:Vals xs aX):(!aX.toArray.isEmpty)=!xs.isEmpty:=by
 cases r<;>simp
theorem wN:(sizeLine:Nat)<2 ^ 63:=by rw[jF];decide
theorem OO:SK X (λx H Q=>∃k,AB X.K x H k/\Q k H):=by
 intro pins s Z H x v Q I rx h;obtain⟨k,e,q⟩:=h;have hs:sizeLine=16777216:=jF;cases x with
 |bc =>
  cases rx;have e':k=false:=e;subst e';exact truthy_none ⟨H,I,q⟩
 |bl b =>
  cases rx;have e':k=b:=e;subst e';exact cv ⟨H,I,q⟩
 |int i =>
  obtain⟨t,rfl⟩:=rx;have e':k=(i != 0):=e;subst e';exact PySem.P.truthy_int ⟨H,I,q⟩
 |str y =>
  obtain⟨t,rfl⟩:=rx;obtain⟨hy,e'⟩:y.length<=sizeLine/\k=((y.length:Int) != 0):=e;subst e';exact PySem.P.truthy_str () ⟨H,I.tok _,q⟩
 |kj y =>
  obtain⟨t,rfl⟩:=rx;obtain⟨hy,e'⟩:y.size<=sizeLine/\k=((y.size:Int) != 0):=e;subst e';exact PySem.W.truthy_bytes () ⟨H,I.tok _,q⟩
 |ref p =>
  cases rx;have e':(∃xs,eQ X.K H p xs/\k=!xs.isEmpty)\/(∃xs,gY X.K H p xs/\k=!xs.isEmpty)\/∃kvs,H p=some (.dK kvs)/\k=!kvs.isEmpty:=e;rcases e' with⟨xs,hx,e'⟩|⟨xs,hx,e'⟩|⟨kvs,hx,e'⟩
  ·subst e';obtain⟨aX,r,pl,hz⟩:=I.list hx;have hlen:=r.length;exact wpAny_truthy_list pl.isList (by simp only[List.size_toArray];omega) ⟨H,I.tok _,by rw[Hl r];exact q⟩
  ·subst e';obtain⟨aX,r,pl,hz⟩:=I.tuple hx;have hlen:=r.length;exact truthy_tuple pl (by simp only[List.size_toArray];omega) ⟨H,I.tok _,by rw[Hl r];exact q⟩
  ·subst e';obtain⟨hz,hS,vs,r,m⟩:kvs.length<=sizeLine/\(p==sysModules)=false/\∃vs,KV kvs vs/\s.heap.DictOf (f7 X.prog X.w) p vs:=I.bz p _ hx;have hlen:kvs.length=vs.length:=kR r;exact wpAny_truthy_dict hS m () ⟨H,I.tok _,by rw[YL r];exact q⟩
 |_=>exact(show False from e).elim
theorem SE(ha:PE X a ta)(he:∀whole,isTrue a X.env whole=(do let v <- whole;standAt a.pos;holding [v] (truthy v))) :
  PT X a (λZ H Q=>ta Z H λx H'=>∃k,AB X.K x H' k/\Q k H'):=by
 intro pins s Z H Q I h;exact isTrue_plain (cq (ha pins s Z H _ I h) λv s1 ⟨x,H1,I1,r1,q1⟩=>OO pins s1 Z H1 x v Q I1 r1 q1) (he _)
theorem vals1{x:V}(r:Vals [x] us):∃u,us=[u]/\RelV x u:=by
 cases r with
 |cons r1 r2=>cases r2;exact⟨_,rfl,r1⟩
theorem vals2{x y:V}(r:Vals [x,y] us):∃u w',us=[u,w']/\RelV x u/\RelV y w':=by
 cases r with
 |cons r1 r2 =>
  cases r2 with
  |cons r3 r4=>cases r4;exact⟨_,_,rfl,r1,r3⟩
theorem GC:j8 X (.type "int") (λxs H Q=>(∃i,xs=[.int i]/\Q (.int i) H)\/∃k,xs=[.bl k]/\Q (.int (if k then 1 else 0)) H):=by
 intro pins s Z H xs us Q I r h;rcases h with⟨i,rfl,q⟩|⟨k,rfl,q⟩
 ·obtain⟨u,rfl,t,rfl⟩:=vals1 r;exact call_int_int ⟨.int i,H,I,⟨_,rfl⟩,q⟩
 ·obtain⟨u,rfl,r1⟩:=vals1 r;cases r1;exact call_int_bool ⟨.int (if k then 1 else 0),H,I.tok _,⟨_,rfl⟩,q⟩
end
structure pZ(h:Heap)(x dx C:Addr)(mA:Str->Option Value):Prop where
 obj:h.get? x=some (PySem.W.instObj C dx)
 ns:h.Ns1 dx mA
 ne:dx≠x
theorem GQ{mA:Str->Option Value}(n:h.Ns1 dx mA):∃od,h.get? dx=some od/\∀name,PySem.W.lookIn name od=some (mA name):=by
 obtain⟨o,es,ep,ho,hd,hk,_,hm⟩:=n;refine⟨o,ho,λname=>?_⟩;have e:=hm name;unfold nsFind findBy at e;rw[<- Array.find?_toList] at e;unfold PySem.W.lookIn;rw[hd];dsimp only;split
 ·rename_i y q;rw[q] at e;exact dX some e
 ·rename_i q;rw[q] at e;have a:es.toList.any (·.refKey)=false:=by
   rw[jM];intro y hy;obtain⟨z,t,kG⟩:=hk y (Array.mem_toList_iff.mp hy);simp[DictEntry.refKey,kG]
  have a':¬es.toList.any (·.refKey)=true:=by rw[a];exact cA
  rw[aG a'];exact dX some e
theorem pZ.look{x:Addr}{mA:Str->Option Value}(I:pZ h x dx C mA):∃od,PySem.W.InstAt h x (PySem.W.instObj C dx) C (some od)/\∀name,PySem.W.lookIn name od=some (mA name) :=
 let ⟨od,ho,hl⟩:=GQ I.ns
 ⟨od,⟨I.obj,rfl,rfl,ho⟩,hl⟩
section
variable{prog:Program}{x:Addr}{mA:Str->Option Value}{name:Str}{v:Value}
theorem get_map{expr:Bool}(X:K.In s.heap)(I:pZ s.heap x dx C mA)(hg:PySem.W.plainGet K C name=true)(hh:PySem.W.hasDictIn K C=true)(ha:PySem.W.findIn K (.ref C) name=some none)(hv:mA name=some v)(yN:PySem.W.handedIn v=true)(h:Q v { s with toks:=s.toks+1 }) :
  wpAny (model prog w) A (getAttr (.ref x) name expr) Q E s:=by
 obtain⟨od,J,hl⟩:=I.look;exact PySem.W.get_value X J (iQ hg).1 (PySem.W.findObj_own hh ha rfl (by rw[hl,hv])) yN h
theorem RJ{pl:Sem Bool}{Q:Value×List Value->Shared->Prop}(X:K.In s.heap)(I:pZ s.heap x dx C mA)(hg:PySem.W.plainGet K C name=true)(hf:PySem.W.findIn K (.ref C) name=some (some (.ref f)))(ht:PySem.W.isFn K (.ref f)=true)(hv:mA name=none)(h:Q (.ref f,[.ref x]) s) :
  wpAny (model prog w) A (getMethod (.ref x) name pl) Q E s:=by
 obtain⟨od,J,hl⟩:=I.look;exact PySem.W.method_fn X J (iQ hg).1 (iQ hg).2 hf (fM.mp ht) (by show(PySem.W.lookIn name od).map (·.isSome)=some false;simp_all) h
theorem QL{ns:List Str}{Q:Unit->Shared->Prop}(X:K.In s.heap)(I:pZ s.heap x dx C mA)(hs:PySem.W.findIn K (.ref C) "__setattr__"=some (some (.builtin "object.__setattr__")))(hp:PySem.W.plainOver K C=true)(ht:PySem.W.takerIn K C name=some none)(hh:PySem.W.hasDictIn K C=true)(hw:PySem.Within mA ns)(hsz:ns.length<=sizeLine)(h:∀h',pZ h' x dx C (λy=>if y=name then some v else mA y)->Heap.SameBut dx s.heap h'->Q Unit.unit { s with heap:=h',toks:=s.toks+2 }) :
  wpAny (model prog w) A (setAttr (.ref x) name v) Q E s:=by
 obtain⟨od,J,hl⟩:=I.look;refine PySem.W.set_plain X J hs (PySem.W.osa_open (s:={ s with toks:=s.toks+1 }) (r:=none) X J hp ht λb=>?_);obtain⟨cd,hc,Eo⟩:=PySem.W.any_some hh;have hx:s.heap.get? x=some ⟨.ref C,some dx,.plain,#[]⟩:=I.obj;refine ae (aj (ae (ae (wpAny_loadPart hx (ae (PySem.W.Looks.here (s:={ s with toks:=s.toks+1 }) (PySem.W.looks_clsIn X hc) ?_))))));rw[Eo];refine aj (a:=some dx) (ae (aj (ae ?_)));refine wpAny_nsSet1 (s:={ s with toks:=s.toks+1 }) I.ns λh' nD gG=>?_;obtain⟨oD,esD,epD,Me,MF,MI⟩:=nD.count (PySem.Within.cons name v hw);refine ae (wpAny_lookBehind Me (by rw[MF];exact pastItsLine_dict (aA MI (by grind))) ?_);exact aj (h _ ⟨(gG.2 _ (bf I.ne)).trans I.obj,nD,I.ne⟩ gG)
theorem RZ{R:Result->Shared->Prop}{vs:List Value}{kw:List (Str×Value)}(X:K.In s.heap)(hm:PySem.W.makesIn K C=true)(hi:PySem.W.findIn K (.ref C) "__init__"=some (some (.ref f)))(hf:PySem.W.typeIn K (.ref f)=some (.type "function"))(h:codeAny (model prog w) (A.under (.builtin "type.__call__" ⟨.ref C :: vs,kw⟩)) (.call (.ref f) ⟨.ref (s.heap.objs.size + 1) :: vs,kw⟩) (PySem.W.InitBack (s.heap.objs.size + 1) R)
   { s with heap:=(s.heap.push PySem.W.emptyDict).push (PySem.W.instObj C s.heap.objs.size) }) :
  codeAny (model prog w) A (.call (.ref C) ⟨vs,kw⟩) R s:=by
 exact PySem.W.make_core (PySem.W.makes_of X hm) (PySem.W.looks_findIn X hi) (λself=>PySem.W.bind_fn X self hf) (.inl rfl) h
end
def p6(f:Str)(v:V):List (Str×V)->List (Str×V)
 |[]=>[(f,v)]
 |(g,x)::r=>if g=f then(g,v)::r else(g,x)::p6 f v r
theorem HK(f g:Str)(v:V):∀fs:List (Str×V),(p6 f v fs).lookup g=if g=f then some v else fs.lookup g
 |[]=>by
  show List.lookup g [(f,v)]=_;by_cases h:g=f
  ·have hb:(g==f)=true:=fM.mpr h;simp only[List.lookup,hb,if_pos h]
  ·have hb:(g==f)=false:=dM.mpr h;simp only[List.lookup,hb,if_neg h]
 |(k,x)::r=>by
  have ih:=HK f g v r;rw[show p6 f v ((k,x)::r)=(if k=f then(k,v)::r else(k,x)::p6 f v r) from rfl];by_cases hk:k=f
  ·rw[aN hk];by_cases h:g=k
   ·have hb:(g==k)=true:=fM.mpr h;simp only[List.lookup,hb,if_pos (h.trans hk)]
   ·have hb:(g==k)=false:=dM.mpr h;simp only[List.lookup,hb,if_neg (λe:g=f=>h (e.trans hk.symm))]
  ·rw[aG hk];by_cases h:g=k
   ·have hb:(g==k)=true:=fM.mpr h;simp only[List.lookup,hb,if_neg (λe:g=f=>hk (h.symm.trans e))]
   ·have hb:(g==k)=false:=dM.mpr h;simp only[List.lookup,hb];exact ih
theorem Bs(f:Str)(v:V):∀fs:List (Str×V),f∈(p6 f v fs).map (·.1)/\∀g,g∈fs.map (·.1)->g∈(p6 f v fs).map (·.1)
 |[]=>⟨by simp[p6],λg h=>by simp at h⟩
 |(k,x)::r=>by
  obtain⟨i1,i2⟩:=Bs f v r;rw[show p6 f v ((k,x)::r)=(if k=f then(k,v)::r else(k,x)::p6 f v r) from rfl];by_cases hk:k=f
  ·rw[aN hk]
   grind
  ·rw[aG hk];refine⟨?_,λg h=>?_⟩
   ·exact bJ _ i1
   ·rcases aC.mp h with e|e
    ·exact aC.mpr (.inl e)
    ·exact bJ _ (i2 g e)
theorem HJ(f:Str)(v:V):∀fs:List (Str×V),(p6 f v fs).length<=fs.length+1
 |[]=>by simp[p6]
 |(k,x)::r=>by
  have ih:=HJ f v r;rw[show p6 f v ((k,x)::r)=(if k=f then(k,v)::r else(k,x)::p6 f v r) from rfl]
  grind
theorem A4.some_of{o:Option Value}(r:A4 (some v) o):∃u,o=some u/\RelV v u:=by
 cases o with
 |none=>exact(show False from r).elim
 |some u=>exact⟨u,rfl,r⟩
theorem A4.none_of{o:Option Value}(r:A4 none o):o=none:=by
 cases o with
 |none=>rfl
 |some u=>exact(show False from r).elim
theorem a41(r:RelV v u):PySem.W.handedIn u=true:=by
 cases v with
 |bc=>cases (show u=Value.none from r);rfl
 |bl b=>cases (show u=Value.bool b from r);rfl
 |int i=>obtain⟨t,e⟩:=(show ∃t,u=Value.int i t from r);cases e;rfl
 |str x=>obtain⟨t,e⟩:=(show ∃t,u=Value.str x t from r);cases e;rfl
 |kj b=>obtain⟨t,e⟩:=(show ∃t,u=Value.bytes b t from r);cases e;rfl
 |pU b=>obtain⟨t,e⟩:=(show ∃t,u=Value.float b t from r);cases e;rfl
 |ref a=>cases (show u=Value.ref a from r);rfl
 |ty n=>cases (show u=Value.type n from r);rfl
section
variable{fs:List (Str×V)}
theorem xa(bz:fA P w H h)(e:H a=some (.ins C dx fs)):∃mA,pZ h a dx C mA/\(∀f,A4 (fs.lookup f) (mA f))/\PySem.Within mA (fs.map (·.1))/\fs.length<=1000/\H dx=some (.own a):=by
 obtain⟨d,z,ne,ob,mA,n,r,q⟩:=(show j4 P w H h a (.ins C dx fs) from bz a _ e)
 exact⟨mA,⟨ob,n,ne⟩,r,q,z,d⟩
end
structure iz(K:PySem.W.Frag)(C:Addr):Prop where
 pg:PySem.W.plainGet K C Str.empty=true
 hd:PySem.W.hasDictIn K C=true
 po:PySem.W.plainOver K C=true
 sa:PySem.W.findIn K (.ref C) "__setattr__"=some (some (.builtin "object.__setattr__"))
theorem iz.get(c:iz K C)(f:Str):PySem.W.plainGet K C f=true:=c.pg
def u6(K:PySem.W.Frag)(C:Addr)(f:Str):Prop:=PySem.W.findIn K (.ref C) f=some none
theorem u6.Wn{f:Str}(n:u6 K C f):PySem.W.takerIn K C f=some none:=by
 unfold PySem.W.takerIn;rw[show PySem.W.findIn K (.ref C) f=some none from n]
 rfl
structure Meth(K:PySem.W.Frag)(C:Addr)(m:Str)(f:Addr):Prop where
 at_:PySem.W.findIn K (.ref C) m=some (some (.ref f))
 fn:PySem.W.isFn K (.ref f)=true
 kp:PySem.W.keepIn K (.ref f)=true
section
variable{fs:List (Str×V)}{f:Str}
theorem Hj{b:Bool}(I:Inv X pins Z H s)(e:H a=some (.ins C dx fs))(c:iz X.K C)(n:u6 X.K C f)(l:fs.lookup f=some v)(h:∀u s',Inv X pins Z H s'->RelV v u->Q u s'):wpAny (model X.prog X.w) A (getAttr (.ref a) f b) Q E s:=by
 obtain⟨mA,O,r,_,_,_⟩:=xa I.bz e;obtain⟨u,hu,ru⟩:=A4.some_of (v:=v) (o:=mA f) (by rw[<- l];exact r f);exact get_map I.fS O (c.get f) c.hd n hu (a41 ru) (h u _ (I.tok _) ru)
theorem Hk{g:Addr}{pl:Sem Bool}{Q:Value×List Value->Shared->Prop}(I:Inv X pins Z H s)(e:H a=some (.ins C dx fs))(c:iz X.K C)(k:Meth X.K C m g)(l:fs.lookup m=none)(h:Q (.ref g,[.ref a]) s):wpAny (model X.prog X.w) A (getMethod (.ref a) m pl) Q E s:=by
 obtain⟨mA,O,r,_,_,_⟩:=xa I.bz e;have hn:mA m=none:=A4.none_of (by rw[<- l];exact r m);exact RJ I.fS O (c.get m) k.at_ k.fn hn h
theorem Hw{y:V}{Q:Unit->Shared->Prop}(I:Inv X pins Z H s)(e:H a=some (.ins C dx fs))(c:iz X.K C)(n:u6 X.K C f)(hl:fs.length<1000)(ry:RelV y u)(h:∀s',Inv X pins Z (upd H a (.ins C dx (p6 f y fs))) s'->Q Unit.unit s'):wpAny (model X.prog X.w) A (setAttr (.ref a) f u) Q E s:=by
 obtain⟨mA,O,r,wi,_,ho⟩:=xa I.bz e;have hz:(fs.map (·.1)).length<=sizeLine:=by rw[av,jF];omega
 refine QL I.fS O c.sa c.po n.Wn c.hd wi hz λh' O' sb=>h _ ?_;have hd:∃o,h'.get? dx=some o:=let ⟨o,_,_,e',_⟩:=O'.ns;⟨o,e'⟩
 refine I.write (x:=a) (e:=dx) (by rw[e];exact True.intro) (.inr ho) (λb q hb z=>(sb.2 b hb).trans z) hd ?_;refine⟨by rw[b9 O.ne];exact ho,?_,O.ne,O'.obj,_,O'.ns,λg=>?_,λg hg=>?_⟩
 ·have:=HJ f y fs;omega
 ·show A4 ((p6 f y fs).lookup g) (if g=f then some u else mA g);rw[HK];by_cases q:g=f
  ·rw[aN q,aN q];exact ry
  ·rw[aG q,aG q];exact r g
 ·by_cases q:g=f
  ·rw[q];exact(Bs f y fs).1
  ·refine(Bs f y fs).2 g (wi g λz=>hg ?_);show(if g=f then some u else mA g)=none;rw[aG q];exact z
theorem Inv.made(I:Inv X pins Z H s):Inv X pins Z (upd (upd H s.heap.objs.size (.own (s.heap.objs.size+1))) (s.heap.objs.size+1) (.ins C s.heap.objs.size []))
  { s with heap:=(s.heap.push PySem.W.emptyDict).push (PySem.W.instObj C s.heap.objs.size) }:=by
 have e1:(s.heap.push PySem.W.emptyDict).get? s.heap.objs.size=some PySem.W.emptyDict:=ax s.heap rfl;have e2:((s.heap.push PySem.W.emptyDict).push (PySem.W.instObj C s.heap.objs.size)).get? (s.heap.objs.size+1)=some (PySem.W.instObj C s.heap.objs.size):=by
  have:=ax (s.heap.push PySem.W.emptyDict) (o:=PySem.W.instObj C s.heap.objs.size) rfl
  rwa [dn] at this
 have e3:(s.heap.push PySem.W.emptyDict).Ns s.heap.objs.size (λ_=>none):=⟨PySem.W.emptyDict,#[],_,e1,rfl,(λe he=>absurd he (by simp)),λ_=>rfl⟩
 have I1:=I.laid (a:=s.heap.objs.size) (o:=.own (s.heap.objs.size+1)) (h':=s.heap.push PySem.W.emptyDict) (t':=s.toks) (λb u q=>ai _ q) (au _) ⟨_,e1⟩;refine I1.laid (a:=s.heap.objs.size+1) (o:=.ins C s.heap.objs.size []) (t':=s.toks) (λb u q=>ai _ q) (Nat.le_of_eq (dn _ _)) ?_;have ne:s.heap.objs.size≠s.heap.objs.size+1:=aJ (ko _);refine⟨by rw[b9 ne,d8],cc _,ne,e2,λ_=>none,(Heap.Ns1.of_empty e3).at λo q=>ai _ q,λ_=>True.intro,λy hy=>absurd rfl hy⟩
theorem Pa{prog:Program}{env:Env}(hb:attributeBase e f env (eval e env)=eval e env)(h:wpAny (model prog w) A (eval e env) (λo bp=>wpAny (model prog w) A (getAttr o f true) Q E bp) E s):wpAny (model prog w) A (eval (.Attribute e f pos) env) Q E s :=
 Attribute_any_ h (by rw[arm_eval_Attribute,hb])
end
def Up(K:PySem.W.Frag)(ta:TE)(f:Str):TE:=λZ H Q=>ta Z H λx H1=>∃a C dx fs v,x=.ref a/\H1 a=some (.ins C dx fs)/\iz K C/\u6 K C f/\fs.lookup f=some v/\Q v H1
def Uc(K:PySem.W.Frag)(ta tv:TE)(f:Str):TS:=λD Z H=>tv Z H λy H1=>ta Z H1 λx H2=>∃a C dx fs,x=.ref a/\H2 a=some (.ins C dx fs)/\iz K C/\u6 K C f/\fs.length<1000 /\
 D.nx Z (upd H2 a (.ins C dx (p6 f y fs)))
def Ay(X:Cx)(op:Operator)(rd:V->V->Hp->VK->Prop):Prop :=
 ∀(pins:List (Addr×Obj)) (s:Shared) (Z:St) (H:Hp) (x y:V) (u v:Value) (Q:VK),Inv X pins Z H s->RelV x u->RelV y v->rd x y H Q->wpAny (model X.prog X.w) X.A (inplaceOp op u v) (EP X pins Z Q) X.xe s
def QA(K:PySem.W.Frag)(ta tv:TE)(rd:V->V->Hp->VK->Prop)(f:Str):TS:=λD Z H=>ta Z H λx H1=>∃a C dx fs v,x=.ref a/\H1 a=some (.ins C dx fs)/\iz K C/\u6 K C f/\fs.lookup f=some v /\
 tv Z H1 λy H2=>rd v y H2 λz H3=>∃qY iw,H3 a=some (.ins C qY iw)/\iw.length<1000/\D.nx Z (upd H3 a (.ins C qY (p6 f z iw)))
section
variable{o value:Expr}{f:Str}{sC:Pos}{tv:TE}
theorem XA(he:PE X e ta)(hb:attributeBase e f X.env (eval e X.env)=eval e X.env):PE X (.Attribute e f pos) (Up X.K ta f):=by
 intro pins s Z H Q I h;refine Pa hb (cq (he pins s Z H _ I h) λu s1 aZ=>?_);obtain⟨x,H1,I1,rx,a,C,dx,fs,v,ex,ea,c,n,l,q⟩:=aZ;subst ex;obtain rfl:u=Value.ref a:=rx;exact Hj I1 ea c n l λu' s2 I2 ru=>⟨v,H1,I2,ru,q⟩
theorem XO(ha:PE X o ta)(hv:PE X value tv)(hs:swapsWith value (some (.Attribute o f pos')) pos.line X.env=pure false):PS X (.Assign [.Attribute o f pos'] value pos) (Uc X.K ta tv f):=by
 intro pins s Z H D I h;refine plainObj_wpAny_Assign_Attribute (cq (hv pins s Z H _ I h) λu s1 ⟨y,H1,I1,ry,q⟩=>cq (ha pins s1 Z H1 _ I1 q) λov s2 aZ=>?_) hs;obtain⟨x,H2,I2,rx,a,C,dx,fs,ex,ea,c,n,l,q2⟩:=aZ;subst ex;obtain rfl:ov=Value.ref a:=rx;exact Hw I2 ea c n l ry λs3 I3=>⟨Z,_,I3,q2⟩
theorem a03{op:Operator}{rd:V->V->Hp->VK->Prop}(ha:PE X o ta)(hv:PE X value tv)(yS:Ay X op rd):PS X (.AugAssign (.Attribute o f sC) op value pos) (QA X.K ta tv rd f):=by
 intro pins s Z H D I h;refine wpAny_AugAssign_AttributeAny (cq (ha pins s Z H _ I h) λov s1 aZ=>?_);obtain⟨x,H1,I1,rx,a,C,dx,fs,v,ex,ea,c,n,l,q⟩:=aZ;subst ex;obtain rfl:ov=Value.ref a:=rx;refine Hj I1 ea c n l λu s2 I2 ru=>cq (hv pins s2 Z H1 _ I2 q) λw3 s3 ⟨y,H2,I3,ry,q3⟩=>cq (yS pins s3 Z H2 v y u w3 _ I3 ru ry q3) λw4 s4 aZ=>?_;obtain⟨z,H3,I4,rz,qY,iw,NR,l',q4⟩:=aZ;exact Hw I4 NR c n l' rz λs5 I5=>⟨Z,_,I5,q4⟩
def TQ:V->V->Hp->VK->Prop:=λx y H Q=>∃i j,x=.int i/\y=.int j/\Q (.int (i+j)) H
theorem WQ:Ay X .Add TQ:=by
 rintro pins s Z H x y u v Q I rx ry ⟨i,j,rfl,rfl,q⟩;obtain⟨t,rfl⟩:=(show ∃t,u=Value.int i t from rx)
 obtain⟨t',rfl⟩:=(show ∃t',v=Value.int j t' from ry)
 exact PyProof.Rows.iadd_int ⟨.int (i+j),H,I.tok _,⟨_,rfl⟩,q⟩
end
section
variable{c:Value}{b:Bool}
inductive gs(K:PySem.W.Frag)(H:Hp):V->Value->Prop where
 |bc:gs K H .bc (.type "NoneType")
 |bl (x:Bool):gs K H (.bl x) (.type "bool")
 |int (i:Int):gs K H (.int i) (.type "int")
 |str (x:Str):gs K H (.str x) (.type "str")
 |pU (x:UInt64):gs K H (.pU x) (.type "float")
 |lst {a:Addr} {xs:List V} (e:H a=some (.lst xs)):gs K H (.ref a) (.type "list")
 |jb {a:Addr} {o:Obj} {xs:List V} (e:H a=some (.jb o (.lst xs))):gs K H (.ref a) (.type "list")
 |tup {a:Addr} {xs:List V} (e:H a=some (.tup xs)):gs K H (.ref a) (.type "tuple")
 |dK {a:Addr} {kvs:List (Key×V)} (e:H a=some (.dK kvs)):gs K H (.ref a) (.type "dict")
 |dT {a:Addr} {kvs:List (List Key×V)} (e:H a=some (.dT kvs)):gs K H (.ref a) (.type "dict")
 |ins {a C dx:Addr} {fs:List (Str×V)} (e:H a=some (.ins C dx fs)) (cl:iz K C) (ha:PySem.W.findIn K (.ref C) "__class__"=some (some (.builtin "object.__class__")))
   (hn:PySem.W.specialIn K (.builtin "object.__class__") "__get__"=some (some (.builtin "getset_descriptor.__get__"))) (qG:PySem.W.takesIn K (.builtin "object.__class__")=some true)
   (hm:PySem.W.mroIn K C (.type "object")=some true):gs K H (.ref a) (.ref C)
theorem a36{x:V}{t:Value}(I:Inv X pins Z H s)(rx:RelV x u)(ty:gs X.K H x t)(e:PySem.W.kitOne X.K t c=some b)(h:∀tk,Q (.bool b) { s with toks:=tk }) :
  wpAny (model X.prog X.w) A (call (.builtin "isinstance") [u,c]) Q E s:=by
 cases ty with
 |bc=>cases (show u=Value.none from rx);exact bL PySem.W.kitx_none I.fS True.intro e (λz=>nomatch z) h
 |bl y=>cases (show u=Value.bool y from rx);exact bL PySem.W.kitx_bool I.fS True.intro e (λz=>nomatch z) h
 |int i=>obtain⟨t,q⟩:=(show ∃t,u=Value.int i t from rx);cases q;exact bL PySem.W.kitx_int I.fS True.intro e (λz=>nomatch z) h
 |str y=>obtain⟨t,q⟩:=(show ∃t,u=Value.str y t from rx);cases q;exact bL PySem.W.kitx_str I.fS True.intro e (λz=>nomatch z) h
 |pU y=>obtain⟨t,q⟩:=(show ∃t,u=Value.float y t from rx);cases q;exact bL PySem.W.kitx_float I.fS True.intro e (λz=>nomatch z) h
 |@lst a xs ea =>
  cases (show u=Value.ref a from rx);obtain⟨_,_,n,_,h1⟩:=(show j4 X.prog X.w H s.heap a (.lst xs) from I.bz a _ ea)
  exact bL PySem.W.kitx_list I.fS ⟨_,h1,rfl⟩ e (λz=>nomatch z) h
 |@jb a ob xs ea =>
  cases (show u=Value.ref a from rx);obtain⟨_,_,_,n,_,h1⟩:=(show j4 X.prog X.w H s.heap a (.jb ob (.lst xs)) from I.bz a _ ea)
  exact bL PySem.W.kitx_list I.fS ⟨_,h1,rfl⟩ e (λz=>nomatch z) h
 |@tup a xs ea =>
  cases (show u=Value.ref a from rx);obtain⟨_,_,_,p⟩:=(show j4 X.prog X.w H s.heap a (.tup xs) from I.bz a _ ea)
  obtain⟨o,h1,h2,_⟩:=p;exact bL KG I.fS ⟨o,h1,h2⟩ e (λz=>nomatch z) h
 |@dK a kvs ea =>
  cases (show u=Value.ref a from rx);obtain⟨_,_,vs,_,p⟩:=(show j4 X.prog X.w H s.heap a (.dK kvs) from I.bz a _ ea)
  obtain⟨o,es,ep,h1,h2,_⟩:=p;exact bL PySem.W.kitx_dict I.fS ⟨o,h1,h2.1⟩ e (λz=>nomatch z) h
 |@dT a kvs ea =>
  cases (show u=Value.ref a from rx);obtain⟨_,_,xs,_,o,es,ep,h1,h2,_⟩:=(show j4 X.prog X.w H s.heap a (.dT kvs) from I.bz a _ ea)
  exact bL PySem.W.kitx_dict I.fS ⟨o,h1,h2.1⟩ e (λz=>nomatch z) h
 |@ins a C dx fs ea cl ha hn qG hm =>
  cases (show u=Value.ref a from rx);obtain⟨mA,O,_⟩:=xa I.bz ea;obtain⟨od,J,_⟩:=O.look;exact bL (PySem.W.kitx_own (cl.get _) cl.hd ha hn qG hm) I.fS J e (λz=>nomatch z) h
end
structure m9(k:Nat)(A:Around):Prop where
 hd:A.handled=none
 dp:A.depth+3*k+5<recursionLimit
 un:A.units+16*k+200<cLine
theorem m9.mono{j:Nat}(r:m9 k A)(h:j<=k):m9 j A:=⟨r.hd,by have:=r.dp;omega,by have:=r.un;omega⟩
theorem m9.deeper{k:Nat}{A:Around}(r:m9 (k+1) A)(env:Env):m9 k (A.deeper env) :=
 ⟨r.hd,by have:=r.dp;show A.depth+1+3*k+5<_;omega,by have:=r.un;show A.units+3+16*k+200<_;omega⟩
theorem YT{kw:List (Str×Value)}:(A.under (.builtin "type.__call__" ⟨.ref C::us,kw⟩)).depth=A.depth+1:=by
 rfl
theorem YU{kw:List (Str×Value)}:(A.under (.builtin "type.__call__" ⟨.ref C::us,kw⟩)).units=A.units+1:=by
 rfl
theorem m9.make(r:m9 (k+1) A)(C:Addr)(us:List Value)(kw:List (Str×Value)):m9 k (A.under (.builtin "type.__call__" ⟨.ref C::us,kw⟩)) :=
 ⟨r.hd,by have:=r.dp;rw[YT];omega,by have:=r.un;rw[YU];omega⟩
theorem m9.depth{k:Nat}{A:Around}(r:m9 k A):A.depth<recursionLimit:=by have:=r.dp;omega
def CT:TA:=λ_ H Q=>Q [] H
def Wg(ta:TE)(tr:TA):TA:=λZ H Q=>ta Z H λx H1=>tr Z H1 λxs H2=>Q (x::xs) H2
theorem se:PA X [] CT:=λ_ _ _ _ H Q I h=>Calls.spliced_nil ⟨[],H,I,.nil,h⟩
theorem T3(ha:PE X e te)(hr:PA X es t)(hs:starEach (e::es) X.env=(false,eval e X.env)::starEach es X.env:=by rfl):PA X (e::es) (Wg te t):=by
 intro pos pins s Z H Q I h;rw[hs];show wpAny _ _ (spliced ((false,eval e X.env)::backTo pos (starEach es X.env))) _ _ s;refine Calls.spliced_cons (cq (ha pins s Z H _ I h) λu s1 aZ=>?_);obtain⟨x,H1,I1,r1,q1⟩:=aZ;exact cq (hr pos pins s1 Z H1 _ I1 q1) λus s2 ⟨xs,H2,I2,r2,q2⟩=>⟨x::xs,H2,I2,.cons r1 r2,q2⟩
def Ux(t:TA):TE:=λZ H Q=>t Z H λxs H1=>xs.length<=sizeLine/\∀p,H1 p=none->Q (.ref p) (upd H1 p (.tup xs))
def Us(t:TA):TE:=λZ H Q=>t Z H λxs H1=>xs.length<=sizeLine/\∀p,H1 p=none->Q (.ref p) (upd H1 p (.lst xs))
theorem XH{x1}(h:PA X es t):PE X (.Tuple es x1 pos) (Ux t):=by
 intro pins s Z H Q I hq;refine wpAny_Tuple_spliced (cq (h pos pins s Z H _ I hq) λus s1 ⟨xs,H1,I1,r,z,q⟩=>⟨by rw[<- r.length];exact z,?_⟩);have hf:H1 s1.heap.objs.size=none:=I1.bz.fresh (au _);refine⟨.ref s1.heap.objs.size,upd H1 s1.heap.objs.size (.tup xs),I1.laid (t':=s1.toks) (λb u e=>ai _ e) (au _) ?_,rfl,q _ hf⟩;exact⟨z,us,r,⟨_,ax _ rfl,rfl,⟨_,rfl⟩,rfl⟩⟩
theorem XC(h:PA X es t):PE X (.List es pos) (Us t):=by
 intro pins s Z H Q I hq;refine wpAny_List_spliced (cq (h pos pins s Z H _ I hq) λus s1 ⟨xs,H1,I1,r,z,q⟩=>⟨by rw[<- r.length];exact z,?_⟩);have hf:H1 s1.heap.objs.size=none:=I1.bz.fresh (au _);refine⟨.ref s1.heap.objs.size,upd H1 s1.heap.objs.size (.lst xs),I1.laid (t':=s1.toks) (λb u e=>ai _ e) (au _) ?_,rfl,q _ hf⟩;exact⟨z,us,0,r,ax _ rfl⟩
noncomputable abbrev Sp:=List V->Hp->VK->XK->Prop
noncomputable abbrev mn:=List Env->Hp->Shared->XK->Value->Shared->Prop
structure pY(P:Program)(w:World)(K:PySem.W.Frag)(mg:Str->Option Value)(base:Heap)(A:Around)(outer:List Env)(s:Shared)(H:Hp):Prop where
 frames:A.frames=some outer
 mod:Mod K mg base
 bs:∀b o,base.get? b=some o->s.heap.get? b=some o/\H b=none
 mf:base.objs.size<=s.heap.objs.size
 K7:s.heap.FunFrames base outer
 mO:∀b∈fm outer,H b=none
 bz:fA P w H s.heap
 bare:AllBare s.gens
def CE(outer:List Env)(P:Program)(w:World)(H:Hp)(s:Shared)(Q:VK)(u:Value)(s':Shared):Prop :=
 ∃v H',s'.os=s.os/\AllBare s'.gens/\Un (fm outer) [] H H' s.heap s'.heap/\fA P w H' s'.heap/\RelV v u/\Q v H'
def CR(CX:mn)(outer:List Env)(P:Program)(w:World)(H:Hp)(s:Shared)(Q:VK)(E:XK)(r:Result)(s':Shared):Prop :=
 match r with
 |.ok (.ret u)=>CE outer P w H s Q u s'
 |.ok _=>False
 |.error e=>CX outer H s E e s'
structure fX(P:Program)(w:World)(K:PySem.W.Frag)(mg:Str->Option Value)(base:Heap)(CX:mn)(k:Nat)(f:Addr)(fd:FuncData)(ps:List Str)(sp:Sp):Prop where
 len:∀vs H Q E,sp vs H Q E->vs.length=ps.length
 run:∀(A:Around) (outer:List Env) (s:Shared) (H:Hp) (args:Args) (us:List Value) (vs:List V) (Q:VK) (E:XK),m9 k A->pY P w K mg base A outer s H->BindsTo s fd args (ps.zip us)->Vals vs us->sp vs H Q E ->
  codeAny (model P w) A (.call (.ref f) args) (CR CX outer P w H s Q E) s
theorem pY.make{mg:Str->Option Value}{outer:List Env}(e:pY P w K mg base A outer s H)(C:Addr)(us:List Value)(kw:List (Str×Value)) :
  pY P w K mg base (A.under (.builtin "type.__call__" ⟨.ref C::us,kw⟩)) outer s H:=⟨by first|exact e.frames|(simpa[Around.under,Code.envs,Code.isFrame,pushEnvs] using e.frames),e.mod,e.bs,e.mf,e.K7,e.mO,e.bz,e.bare⟩
section
variable{s':Shared}
theorem Inv.Gk(I:Inv X pins Z H s):pY X.prog X.w X.K X.mg X.base X.A X.stack s H :=
 ⟨I.ok.frames,I.ok.mod,I.bs,aA I.ok.mf I.sz,I.stack,I.xf,I.bz,I.bare⟩
theorem Inv.after{Q:VK}(I:Inv X pins Z H s)(h:CE X.stack X.prog X.w H s Q u s'):EP X pins Z Q u s':=by
 obtain⟨v,H',os,bare,un,bz,r,q⟩:=h;obtain⟨hh,g,d,t,pB⟩:=s';obtain rfl:pB=s.os:=os;exact⟨v,H',I.call (h':=hh) (g':=g) (d':=d) (t':=t) (ch:=[]) un bz bare (λb z=>absurd z (by simp)),r,q⟩
end
def FW(sp:Sp)(dvs:List V)(E:XK)(t:TA):TE:=λZ H Q=>t Z H λvs H1=>sp (vs++dvs) H1 Q E
def FX(C:Addr)(sp:Sp)(dvs:List V)(E:XK)(t:TA):TE:=λZ H Q=>t Z H λvs H1=>∀x dx,H1 x=none->H1 dx=none->dx≠x ->
 sp (.ref x::(vs++dvs)) (upd (upd H1 dx (.own x)) x (.ins C dx [])) (λv H2=>v=.bc/\Q (.ref x) H2) E
def Binds(K:PySem.W.Frag)(fd:FuncData)(ps:List Str)(ds:List Value):Prop :=
 ∀(s:Shared) (us:List Value),K.In s.heap->(us++ds).length=ps.length->BindsTo s fd ⟨us,[]⟩ (ps.zip (us++ds))
theorem Binds.all(h:∀us:List Value,us.length=ps.length->bindArgs fd ⟨us,[]⟩=pure (ps.zip us)):Binds K fd ps []:=λs us _ hl=>by
 rw[fj] at hl ⊢;exact .of_eq (h us hl)
def Passes(CX:mn)(X:Cx)(E:XK):Prop:=∀(pins:List (Addr×Obj)) (Z:St) (H:Hp) (s:Shared) (e:Value) (s':Shared),Inv X pins Z H s->CX X.stack H s E e s'->X.xe e s'
section
variable{dvs:List V}{ds:List Value}{E:XK}
theorem wO{Q:VK}(F:fX X.prog X.w X.K X.mg X.base CX k f fd ps sp)(hr:m9 k X.A)(hb:Binds X.K fd ps ds)(hd:Vals dvs ds)(hx:Passes CX X E)(I:Inv X pins Z H s)(r:Vals vs us)(h:sp (vs++dvs) H Q E):wpAny (model X.prog X.w) X.A (call (.ref f) us) (EP X pins Z Q) X.xe s:=by
 have r2:Vals (vs++dvs) (us++ds):=r.append hd;have hl:(us++ds).length=ps.length:=by rw[<- r2.length];exact F.len _ _ _ _ h
 refine wpAny_call (gh (F.run X.A X.stack s H ⟨us,[]⟩ (us++ds) (vs++dvs) Q E hr I.Gk (hb s us I.fS hl) r2 h) λr s' hq=>?_);cases r with
 |error e=>exact hx pins Z H s e s' I hq
 |ok fl =>
  cases fl with
  |ret u=>exact I.after hq
  |next=>exact False.elim hq
  |brk=>exact False.elim hq
  |cont=>exact False.elim hq
theorem Qk(F:fX X.prog X.w X.K X.mg X.base CX k f fd ps sp)(hr:m9 k X.A)(hg:Gl X x)(hm:X.mg x=some (.ref f))(hk:PySem.W.keepIn X.K (.ref f)=true)(hb:Binds X.K fd ps ds)(hd:Vals dvs ds)(hx:Passes CX X E)(ha:PA X (e::es) t)(gz:(x==("__debug__":Str))=false:=by decide)(he:starEach (e::es) X.env=(false,eval e X.env)::starEach es X.env:=by rfl)(fU:(backTo pos (starEach es X.env)).any (·.1)=false:=by rfl) :
  PE X (.Call (.Name x p) (e::es) [] pos) (FW sp dvs E t):=by
 intro pins s Z H Q I h;refine cE (N9 I hg hm ?_ gz);refine jj (h₀:=X.base) I.ok.mod.lK hk (cq (ha pos pins s Z H _ I h) λus s1 ⟨vs,H1,I1,r,q⟩=>⟨I1.fS,?_⟩) he fU;exact wO F hr hb hd hx I1 r q
theorem Sj(F:fX X.prog X.w X.K X.mg X.base CX k f fd ps sp)(hr:m9 k X.A)(hg:Gl X x)(hm:X.mg x=some (.ref f))(hk:PySem.W.keepIn X.K (.ref f)=true)(hb:Binds X.K fd ps ds)(hd:Vals dvs ds)(hx:Passes CX X E)(gz:(x==("__debug__":Str))=false:=by decide):PE X (.Call (.Name x p) [] [] pos) (FW sp dvs E CT):=by
 intro pins s Z H Q I h;refine cE (N9 I hg hm ?_ gz);exact iR I.fS hk (wO (us:=[]) F hr hb hd hx I .nil h)
structure Mk(K:PySem.W.Frag)(C f:Addr):Prop where
 makes:PySem.W.makesIn K C=true
 init:PySem.W.findIn K (.ref C) "__init__"=some (some (.ref f))
 fn:PySem.W.isFn K (.ref f)=true
 kp:PySem.W.keepIn K (.ref C)=true
theorem JN{Q:VK}(M:Mk X.K C f)(F:fX X.prog X.w X.K X.mg X.base CX k f fd ps sp)(hr:m9 (k+1) X.A)(hb:Binds X.K fd ps ds)(hd:Vals dvs ds)(hx:Passes CX X E)(I:Inv X pins Z H s)(r:Vals vs us)(h:∀x dx,H x=none->H dx=none->dx≠x->sp (.ref x::(vs++dvs)) (upd (upd H dx (.own x)) x (.ins C dx [])) (λv H2=>v=.bc/\Q (.ref x) H2) E) :
  wpAny (model X.prog X.w) X.A (call (.ref C) us) (EP X pins Z Q) X.xe s:=by
 have hq:=h (s.heap.objs.size+1) s.heap.objs.size (I.bz.fresh (iB _)) (I.bz.fresh (au _)) (aJ (ko _));have I2:=Inv.made (C:=C) I;have r2:Vals (V.ref (s.heap.objs.size+1)::(vs++dvs)) (Value.ref (s.heap.objs.size+1)::(us++ds)):=.cons rfl (r.append hd);have hl:(Value.ref (s.heap.objs.size+1)::us++ds).length=ps.length:=by
  have e:=r2.length;rw[F.len _ _ _ _ hq] at e;exact e.symm
 refine wpAny_call (RZ (f:=f) I.fS M.makes M.init (fM.mp M.fn) (gh (F.run _ X.stack _ _ ⟨Value.ref (s.heap.objs.size + 1) :: us,[]⟩ (Value.ref (s.heap.objs.size + 1) :: (us ++ ds)) _ _ E (hr.make C us [])
  (I2.Gk.make C us []) (hb _ (Value.ref (s.heap.objs.size + 1) :: us) I2.fS hl) r2 hq) λr s' lO=>?_))
 cases r with
 |error e=>exact hx pins Z _ _ e s' I2 lO
 |ok fl =>
  cases fl with
  |ret u =>
   obtain⟨v,H',I3,rv,ev,q3⟩:=I2.after lO;subst ev;exact⟨rv,⟨V.ref (s.heap.objs.size+1),H',I3,rfl,q3⟩⟩
  |next=>exact False.elim lO
  |brk=>exact False.elim lO
  |cont=>exact False.elim lO
theorem Qn(M:Mk X.K C f)(F:fX X.prog X.w X.K X.mg X.base CX k f fd ps sp)(hr:m9 (k+1) X.A)(hg:Gl X x)(hm:X.mg x=some (.ref C))(hb:Binds X.K fd ps ds)(hd:Vals dvs ds)(hx:Passes CX X E)(ha:PA X (e::es) t)(gz:(x==("__debug__":Str))=false:=by decide)(he:starEach (e::es) X.env=(false,eval e X.env)::starEach es X.env:=by rfl)(fU:(backTo pos (starEach es X.env)).any (·.1)=false:=by rfl) :
  PE X (.Call (.Name x p) (e::es) [] pos) (FX C sp dvs E t):=by
 intro pins s Z H Q I h;refine cE (N9 I hg hm ?_ gz);refine jj (h₀:=X.base) I.ok.mod.lK M.kp (cq (ha pos pins s Z H _ I h) λus s1 ⟨vs,H1,I1,r,q⟩=>⟨I1.fS,?_⟩) he fU;exact JN M F hr hb hd hx I1 r q
theorem So(M:Mk X.K C f)(F:fX X.prog X.w X.K X.mg X.base CX k f fd ps sp)(hr:m9 (k+1) X.A)(hg:Gl X x)(hm:X.mg x=some (.ref C))(hb:Binds X.K fd ps ds)(hd:Vals dvs ds)(hx:Passes CX X E)(gz:(x==("__debug__":Str))=false:=by decide):PE X (.Call (.Name x p) [] [] pos) (FX C sp dvs E CT):=by
 intro pins s Z H Q I h;refine cE (N9 I hg hm ?_ gz);exact iR I.fS M.kp (JN (us:=[]) M F hr hb hd hx I .nil h)
end
structure ic(N P:List Str)(sc:Scope):Prop where
 kind:sc.kind=.function
 co:sc.isCoroutine=false
 gen:sc.isGenerator=false
 nd:N.Nodup
 pre:N.take P.length=P
 par:∀x∈P,sc.names.lookup x=some .local\/sc.names.lookup x=some .cell
 lE:∀y∈sc.names,y.2≠.free
theorem J'{kindOf:Str->Option NameKind}{x:Str}:∀{binds:List (Str×Value)} {m:Str->Option Value},(∀v,(x,v)∉binds)->bindL kindOf binds m x=m x
 |[],_,_=>rfl
 |(n,v)::r,m,h=>by
  unfold bindL;rw[J' λw hw=>h w (bJ _ hw)];split
  ·have:x≠n:=by rintro rfl;exact h v jl
   simp[this]
  ·rfl
theorem JY{kindOf:Str->Option NameKind}{x:Str}:∀{binds:List (Str×Value)} {m:Str->Option Value},(∀v,(x,v)∉binds)->bindC kindOf binds m x=m x
 |[],_,_=>rfl
 |(n,v)::r,m,h=>by
  unfold bindC;rw[JY λw hw=>h w (bJ _ hw)];split
  ·rfl
  ·have:x≠n:=by rintro rfl;exact h v jl
   simp[this]
theorem JZ{kindOf:Str->Option NameKind}{x:Str}{v:Value}:∀{P:List Str} {vs:List Value} {i:Nat} {m:Str->Option Value},P.Nodup->P[i]?=some x->vs[i]?=some v->kindOf x=some .local ->
  bindL kindOf (P.zip vs) m x=some v
 |[],_,_,_,_,h,_,_=>by simp at h
 |_::_,[],_,_,_,_,h,_=>by simp at h
 |p::P,w::vs,0,m,nd,h1,h2,hk=>by
  simp at h1 h2;subst h1;subst h2;show bindL kindOf ((p,w)::P.zip vs) m p=_;unfold bindL;rw[J' λv hv=>(ei.mp nd).1 (lz hv).1,aN hk];simp
 |p::P,w::vs,i+1,m,nd,h1,h2,hk=>by
  unfold bindL;exact JZ (i:=i) (ei.mp nd).2 (by simpa using h1) (by simpa using h2) hk
theorem JX{kindOf:Str->Option NameKind}{x:Str}{v:Value}:∀{P:List Str} {vs:List Value} {i:Nat} {m:Str->Option Value},P.Nodup->P[i]?=some x->vs[i]?=some v->kindOf x≠some .local ->
  bindC kindOf (P.zip vs) m x=some v
 |[],_,_,_,_,h,_,_=>by simp at h
 |_::_,[],_,_,_,_,h,_=>by simp at h
 |p::P,w::vs,0,m,nd,h1,h2,hk=>by
  simp at h1 h2;subst h1;subst h2;show bindC kindOf ((p,w)::P.zip vs) m p=_;unfold bindC;rw[JY λv hv=>(ei.mp nd).1 (lz hv).1,aG hk];simp
 |p::P,w::vs,i+1,m,nd,h1,h2,hk=>by
  unfold bindC;exact JX (i:=i) (ei.mp nd).2 (by simpa using h1) (by simpa using h2) hk
def start(N:List Str)(vs:List V):St:=vs.map some++List.replicate (N.length-vs.length) none
def nP(CX:mn)(P:Program)(w:World)(K:PySem.W.Frag)(mg:Str->Option Value)(base:Heap)(N:List Str)(qual:Str)(scope:Scope)(f:Addr)(cd:Value)(A:Around)(outer:List Env)(s:Shared)(H:Hp)(E:XK):Cx where
 prog:=P
 w:=w
 K:=K
 mg:=mg
 base:=base
 A:=A.deeper (envOfC qual scope s.heap.objs.size f cd)
 N:=N
 cV:=s
 iK:=H
 env:=envOfC qual scope s.heap.objs.size f cd
 outer:=outer
 stack:=envOfC qual scope s.heap.objs.size f cd::outer
 ex:=[]
 calm:=true
 fn:=λ_=>true
 pn:=[]
 xe:=λe s'=>wpAny (model P w) (A.deeper (envOfC qual scope s.heap.objs.size f cd)) (leaving (envOfC qual scope s.heap.objs.size f cd) e) (λ_ nr=>CX outer H s E e nr) (λe' nr=>CX outer H s E e' nr) s'
theorem Bc{sc:Scope}{n:Nat}(h:sc.names.lookup x=some .cell):∃c,(cellsFrom n sc.names []).lookup x=some c:=by
 have q:=dg sc.names n [] (.inl h);exact dY.mp q
theorem a37{mg:Str->Option Value}{qual:Str}{scope:Scope}{cd:Value}{outer:List Env}{s1:Shared}{E:XK}(S:ic N ps scope)(hd:A.handled=none)(e0:pY P w K mg base A outer s H)(hl:vs.length=ps.length)(r:Vals vs us)(x:InCallC s s.heap.objs.size (bindL (envOfC qual scope s.heap.objs.size f cd).kindOf (ps.zip us) λ_=>none) (cellsFrom (s.heap.objs.size+1) scope.names []) (bindC (envOfC qual scope s.heap.objs.size f cd).kindOf (ps.zip us) λ_=>none) s1) :
  Inv (nP CX P w K mg base N qual scope f cd A outer s H E) [] (start N vs) H s1:=by
 have fU:ps.length<=N.length:=by have:=dX List.length S.pre;grind
 obtain⟨h1,tk,rfl,hk⟩:=x.done;have sR:∀b:Addr,b∉(nP CX P w K mg base N qual scope f cd A outer s H E).ex:=λb z=>absurd (show b∈([]:List Addr) from z) (by simp);refine ⟨⟨e0.mod,S.kind,rfl,rfl,au _,λy z c h1 h2=>?_,λy hy=>?_,λy c _ h=>?_,λ_=>hd,Around.frames_deeper e0.frames,.inr ⟨rfl,rfl⟩,λb z=>absurd z (sR b),e0.bs,e0.mf,λb _ _=>sR b,λb z=>absurd z (sR b),e0.K7,e0.mO⟩,
  rfl,e0.bare,Un.kept hk,⟨_,x.toInCall.ns,λi y v h1 h2 h3=>?_⟩,λy c h=>⟨_,x.cell y c h⟩,e0.bz.fresh (au _),λy c h=>?_,λp hp=>absurd (show p ∈ ([]:List (Addr × Obj)) from hp) (by simp),e0.bz.kept hk,?_,λcM z=>absurd (show (none:Option (List (Option V)))=some cM from z) (by simp)⟩
 ·exact name_of_addr x.apart (aL h1) (aL h2)
 ·rcases hy with hy|hy
  ·exact Bc hy
  ·exact absurd rfl (S.lE _ (aL hy))
 ·exact cT (x.above y c (aL h))
 ·have hi:i<vs.length:=by
   unfold start at h2;by_cases hi:i<vs.length
   ·exact hi
   ·rw[cL (by simpa using hi)] at h2;rw[da] at h2
    simp_all
  have ha:vs[i]?=some v:=by
   unfold start at h2;rw[aI (by simpa using hi),ah] at h2;cases e:vs[i]? with
   |none=>rw[e] at h2;cases h2
   |some a=>rw[e] at h2;cases h2;rfl
  obtain⟨u,hu,rv⟩:=r.get ha;have hp:ps[i]?=some y:=by
   rw[<- S.pre,gj ()];exact h1
  have DL:ps.Nodup:=by rw[<- S.pre];exact S.nd.sublist (List.take_sublist _ _)
  refine⟨u,rv,?_⟩;rcases S.par y (aO hp) with k|k
  ·exact .inl ⟨k,JZ DL hp hu k⟩
  ·obtain⟨c,e⟩:=Bc (n:=s.heap.objs.size+1) k;refine .inr ⟨.inl k,c,e,?_⟩;have q:=x.cell y c e;rw[JX DL hp hu (by show scope.names.lookup y≠_;rw[k];decide)] at q;exact q
 ·exact e0.bz.fresh (cT (x.above y c (aL h)))
 ·unfold start;show _=N.length
  simp_all
theorem Vb{mg:Str->Option Value}{name qual:Str}{params:Arguments}{scope:Scope}{dV kV doc pm fg ct oc:Value}{an od:Option Addr}{kX:Array (Option Value)}(lk:K.lookup f=some ⟨oc,od,.func (PySem.W.fnOf name qual params body scope dV kV doc pm an fg ct),kX⟩)(kH:PySem.W.codeIn K fg qual=true)(S:ic N ps scope)(len:∀vs H Q E,sp vs H Q E->vs.length=ps.length)(tW:∀ (A:Around) (outer:List Env) (s:Shared) (H:Hp) (vs:List V) (Q:VK) (E:XK),m9 k (A.deeper (envOfC qual scope s.heap.objs.size f fg))->sp vs H Q E ->
   ∃ t,iy (nP CX P w K mg base N qual scope f fg A outer s H E) body t/\t { nx:=λ_ H'=>Q .bc H',rt:=Q } (start N vs) H) :
  fX P w K mg base CX (k+1) f (PySem.W.fnOf name qual params body scope dV kV doc pm an fg ct) ps sp:=by
 refine⟨len,λA outer s H args us vs Q E hr e0 hb r qH=>?_⟩;have hl:=len _ _ _ _ qH;have KX:K.In s.heap:=e0.mod.lK.keeps λb o e=>(e0.bs b o e).1;have lim:s.heap.NoLimit:=e0.mod.nolimit.keeps λb o e=>(e0.bs b o e).1;have tO:∀y∈ps.zip us,scope.names.lookup y.1=some .local\/(scope.names.lookup y.1=some .cell/\((cellsFrom (s.heap.objs.size+1) scope.names []).lookup y.1).isSome=true):=λ⟨n,v⟩ hy=>by
  rcases S.par n (lz hy).1 with q|q
  ·exact .inl q
  ·exact .inr ⟨q,dg _ _ _ (.inl q)⟩
 refine codeAny_call_function hr.depth (KX _ _ lk) rfl S.co S.gen rfl (PySem.W.codeRec_of KX kH) (hb _ _ _ _ ?_);refine wpAny_newFunctionEnv_cells S.kind tO λenv he s1 x=>?_;subst he;refine⟨lim.keeps x.toInCall.keep,codeAny_func ?_⟩;obtain⟨t,ht,hq⟩:=tW A outer s H vs Q E (hr.deeper _) qH;have I:Inv (nP CX P w K mg base N qual scope f fg A outer s H E) [] (start N vs) H s1:=a37 S hr.hd e0 hl r x;refine aU (ht [] s1 (start N vs) H _ I hq) (λfl s' hs=>?_) λe s' hs=>hs;have fin:∀{bT:St} {H':Hp} {v:V} {u:Value},Inv (nP CX P w K mg base N qual scope f fg A outer s H E) [] bT H' s'->RelV v u->Q v H'->CE outer P w H s Q u s' :=
  λ{bT H' v u} J rv q=>⟨v,H',J.os,J.bare,J.base,J.bz,rv,q⟩
 cases fl with
 |ret u =>
  obtain⟨v,bT,H',J,rv,q⟩:=hs;exact fin J rv q
 |next =>
  obtain⟨bT,H',J,q⟩:=hs;exact fin (v:=V.bc) (u:=Value.none) J rfl q
 |brk =>
  obtain⟨_,_,_,q⟩:=hs
  simp_all
 |cont =>
  obtain⟨_,_,_,q⟩:=hs
  simp_all
section
variable{id T:String}{r:List V->Hp->VK->Prop}
def yk(r:List V->Hp->VK->Prop)(t:TA):TE:=λZ H Q=>t Z H λvs H1=>r vs H1 Q
theorem xq(hc:j8 X (.builtin id) r)(hg:Gl X x)(hm:X.mg x=none)(hv:bootBuiltins x=some (.builtin id))(ha:PA X (e::es) t)(hn:x≠"__name__":=by decide)(gz:(x==("__debug__":Str))=false:=by decide)(he:starEach (e::es) X.env=(false,eval e X.env)::starEach es X.env:=by rfl)(fU:(backTo pos (starEach es X.env)).any (·.1)=false:=by rfl):PE X (.Call (.Name x p) (e::es) [] pos) (yk r t):=by
 intro pins s Z H Q I h;refine cE (M3 I hg hm hv ?_ hn gz);exact PyProof.Rows.callWith_builtin1 (cq (ha pos pins s Z H _ I h) λus s1 ⟨vs,H1,I1,r1,q1⟩=>hc pins s1 Z H1 vs us Q I1 r1 q1) he fU
theorem Q2(hc:j8 X (.type T) r)(hg:Gl X x)(hm:X.mg x=none)(hv:bootBuiltins x=some (.type T))(ha:PA X (e::es) t)(hn:x≠"__name__":=by decide)(gz:(x==("__debug__":Str))=false:=by decide)(he:starEach (e::es) X.env=(false,eval e X.env)::starEach es X.env:=by rfl)(fU:(backTo pos (starEach es X.env)).any (·.1)=false:=by rfl):PE X (.Call (.Name x p) (e::es) [] pos) (yk r t):=by
 intro pins s Z H Q I h;refine cE (M3 I hg hm hv ?_ hn gz);exact bG (cq (ha pos pins s Z H _ I h) λus s1 ⟨vs,H1,I1,r1,q1⟩=>hc pins s1 Z H1 vs us Q I1 r1 q1) he fU
end
end L2
namespace HT
open PySem PyProof.Rows
section
variable{prog:Program}{w:World}{A:Around}{E:Value->Shared->Prop}{s:Shared}
theorem Pe{t b:Addr}{vs ws:List Value}{Q:Value->Shared->Prop}(ht:IsTup s.heap t vs.toArray)(hb:IsTup s.heap b ws.toArray)(hv:vs≠[])(h1:ws=[]->Q (.ref t) s)(h2:ws≠[]->Q (.ref s.heap.objs.size) { s with heap:=s.heap.push { cls:=.type "tuple",data:=.seq (vs++ws).toArray } })(hsz:vs.length+ws.length<=sizeLine):wpAny (model prog w) A (binaryOp .Add (.ref t) (.ref b)) Q E s:=by
 obtain⟨⟨cls,dd,data,sl⟩,ho,hc,n,hd⟩:=id ht;obtain⟨⟨uz,oJ,data2,jZ⟩,jS,ow,n2,hd2⟩:=id hb;subst hc hd ow hd2;have e:vs.toArray++ws.toArray=(vs++ws).toArray:=by simp
 by_cases hw:ws=[]
 ·exact concat_meets ⟨_,ho,rfl⟩ ⟨_,jS,rfl⟩ iA kQ gN gE (gi _ _)
   (tuple_addW1 t b vs.toArray ws.toArray n n2 dd oJ sl jZ (by simpa using hv) (by simp[hw])) ⟨ho,jS,h1 hw⟩
 ·refine concat_meets ⟨_,ho,rfl⟩ ⟨_,jS,rfl⟩ iA kQ gN gE (gi _ _)
   (tuple_addW2 t b vs.toArray ws.toArray n n2 dd oJ sl jZ (by simpa using hv) (by simpa using hw) ()) ⟨ho,jS,?_⟩
  rw[e];exact h2 hw
def dG(n d:Nat):Option Int->Nat
 |none=>d
 |some v=>if v<0 then(v+(n:Int)).toNat else min v.toNat n
theorem IC(v:Int)(n d:Nat):(if v<0 then max (v+(n:Int)) 0 else min v (n:Int))=((dG n d (some v):Nat):Int):=by
 show(if v<0 then max (v+(n:Int)) 0 else min v (n:Int))=(((if v<0 then(v+(n:Int)).toNat else min v.toNat n):Nat):Int)
 grind
theorem Yz(lo hi:Option Int)(n:Nat):Builtin.Slice.sliceAdjust lo hi 1 (n:Int)=(((dG n 0 lo:Nat):Int),((dG n n hi:Nat):Int)):=by
 refine Prod.ext ?_ ?_
 ·cases lo with
  |none=>rfl
  |some v=>exact IC v n 0
 ·cases hi with
  |none=>rfl
  |some v=>exact IC v n n
theorem Y'(i j:Nat):Builtin.Slice.slicePlaces (i:Int) (j:Int) 1=j-i:=by
 unfold Builtin.Slice.slicePlaces;have h1:(1:Int)>0:=by omega
 simp only[h1,if_true,Int.ediv_one];split<;>omega
theorem Hx{v:Value}{o:Option Int}{Q:Option Int->Shared->Prop}(p:IsPart v o)(h:Q o s):wpAny (model prog w) A (Builtin.Slice.slicePartIndex v) Q E s:=by
 cases p with
 |none=>exact slicePart_none h
 |int i t=>exact slicePart_int h
theorem T7{sl:Addr}{vl vu:Value}{lo hi:Option Int}{n:Nat}{Q:Int×Int×Nat->Shared->Prop}(hs:s.heap.IsSliceOf sl vl vu .none)(pl:IsPart vl lo)(pu:IsPart vu hi)(h:Q (((dG n 0 lo:Nat):Int),1,dG n n hi-dG n 0 lo) s):wpAny (model prog w) A (Builtin.Slice.sliceApplied (.ref sl) (pure (n:Int))) Q E s:=by
 obtain⟨os,pH,ou,tT⟩:=id hs;refine ae (ae (jE pH tT (x:=vl) rfl (ae (jE pH tT (x:=vu) rfl (ae (jE pH tT (x:=.none) rfl (aj ?_)))))));refine ae (slicePart_none ?_);refine ae (Hx pl (ae (Hx pu (ae (aj ?_)))));show wpAny _ _ (match Builtin.Slice.sliceAdjust lo hi 1 (n:Int) with|(lo,hi)=>pure (lo,(1:Int),Builtin.Slice.slicePlaces lo hi 1)) _ _ s;rw[Yz lo hi n];show wpAny _ _ (pure (((dG n 0 lo:Nat):Int),(1:Int),Builtin.Slice.slicePlaces ((dG n 0 lo:Nat):Int) ((dG n n hi:Nat):Int) 1)) _ _ s;rw[Y'];exact aj h
theorem Sv(xs:Array Value)(i k:Nat):((List.range k).filterMap λ(m:Nat)=>xs[((i:Int)+(m:Int)*1).toNat]?).toArray=((xs.toList.drop i).take k).toArray:=by
 have e:(λ(m:Nat)=>xs[((i:Int)+(m:Int)*1).toNat]?)=λm=>xs[i+m]?:=by
  funext m
  have:((i:Int)+(m:Int)*1).toNat=i+m:=by omega
  rw[this]
 rw[e];have:=pick_run xs i k;rw[List.filterMap_map] at this;have e2:((λx=>xs[x]?) ∘ λx=>i+x)=λm=>xs[i+m]?:=rfl;rw[e2] at this;rw[this]
theorem Yo{t sl:Addr}{items:Array Value}{vl vu:Value}{lo hi:Option Int}{Q:Value->Shared->Prop}(ht:IsTup s.heap t items)(hs:s.heap.IsSliceOf sl vl vu .none)(pl:IsPart vl lo)(pu:IsPart vu hi)(hw:¬(dG items.size 0 lo=0/\dG items.size items.size hi=items.size))(h:Q (.ref s.heap.objs.size) { s with heap:=s.heap.push { cls:=.type "tuple",data:=.seq ((items.toList.drop (dG items.size 0 lo)).take (dG items.size items.size hi-dG items.size 0 lo)).toArray } })(hsz:items.size<=sizeLine):wpAny (model prog w) A (getItem (.ref t) (.ref sl)) Q E s:=by
 have kd:sizeOk (.seq ((items.toList.drop (dG items.size 0 lo)).take (dG items.size items.size hi-dG items.size 0 lo)).toArray):=by
  show((items.toList.drop (dG items.size 0 lo)).take (dG items.size items.size hi-dG items.size 0 lo)).toArray.size<=sizeLine;rw[aP,cy,ku,dP];omega
 obtain⟨os,pH,ou,tT⟩:=id hs;have zr:s.TypeIs (.ref sl) "slice":=⟨os,pH,ou⟩
 unfold getItem
 try with_reducible refine bq ?_
 refine ae (wpAny_sequenceKey ht.typeIs ∅ ?_);refine ae (eT (name:=Str.ofString "__getitem__") ht.typeIs bI
  (bV bI ht.typeIs entry_tuple_getitem ?_ (args_tuple_getitem _ _)))
 show wpAny _ _ (Builtin.Tuple.tupleItemsOf (.ref t) >>= _) _ _ s;refine ae (tupleItemsOf_ ht ?_);refine ae (dB zr ?_);refine ae (T7 hs pl pu ?_);have mH:¬((((dG items.size 0 lo:Nat):Int)==0&&(1:Int)==1&&(dG items.size items.size hi-dG items.size 0 lo)==items.size)=true):=by
  grind
 show wpAny _ _ (if(((dG items.size 0 lo:Nat):Int)==0&&(1:Int)==1&&(dG items.size items.size hi-dG items.size 0 lo)==items.size)=true then _ else _) _ _ s;rw[aG mH,Sv]
 first
  |exact wpAny_bind (m:=Builtin.Tuple.tupleExact _) (wpAny_newObj_type (wpAny_pure ⟨_,rfl,wpAny_pure h⟩) kd)
  |exact wpAny_bind (m:=Builtin.Tuple.tupleExact _) (wpAny_newObj_type (wpAny_bind (wpAny_pure (wpAny_pure ⟨_,rfl,wpAny_pure h⟩))) kd)
  |exact wpAny_bind (wpAny_bind (m:=Builtin.Tuple.tupleExact _) (wpAny_newObj_type (wpAny_pure (wpAny_pure ⟨_,rfl,wpAny_pure h⟩)) kd))
  |exact wpAny_bind (wpAny_bind (m:=Builtin.Tuple.tupleExact _) (wpAny_newObj_type (wpAny_pure ⟨_,rfl,wpAny_pure h⟩) kd))
end
end HT
namespace L2
open PySem PySem.Spec PyProof.Rows
variable{X:Cx}{e:Expr}{pos:Pos}{n t':Nat}{a:Addr}{pins:List (Addr×Obj)}{Z:St}{H H':Hp}{s:Shared}{aX:List Value}{A:Around}{y x:V}{u:Value}{o:Option V}{w:World}{E:Value->Shared->Prop}{kvs:List (List Key×V)}{P:Program}
noncomputable abbrev TO:=St->Hp->(Option Int->Hp->Prop)->Prop
def PO(X:Cx)(e:Option Expr)(t:TO):Prop :=
 ∀(pins:List (Addr×Obj)) (s:Shared) (Z:St) (H:Hp) (Q:Option Int->Hp->Prop),Inv X pins Z H s->t Z H Q ->
  wpAny (model X.prog X.w) X.A (evalPart e X.env) (λu s'=>∃o H',Inv X pins Z H' s'/\IsPart u o/\Q o H') X.xe s
def QZ:TO:=λ_ H Q=>Q none H
def Wk(t:TE):TO:=λZ H Q=>t Z H λx H1=>∃i,x=.int i/\Q (some i) H1
section
variable{te:TE}{lo hi:Option Expr}{tl th:TO}{p2:Pos}
theorem Jb:PO X none QZ:=by
 intro pins s Z H Q I h;exact aj ⟨none,H,I,.none,h⟩
theorem Jc(h:PE X e te):PO X (some e) (Wk te):=by
 intro pins s Z H Q I hw;refine cq (h pins s Z H _ I hw) λu s1 aZ=>?_;obtain⟨x,H1,I1,r1,q1⟩:=aZ;obtain⟨i,rfl,q⟩:=q1;obtain⟨t,rfl⟩:=r1;exact⟨some i,H1,I1,.int i t,q⟩
def vq(X:Cx)(r:V->Option Int->Option Int->Hp->VK->Prop):Prop :=
 ∀(pins:List (Addr×Obj)) (s:Shared) (Z:St) (H:Hp) (x:V) (v vl vu:Value) (lo hi:Option Int) (sl:Addr) (Q:VK),Inv X pins Z H s->RelV x v->s.heap.IsSliceOf sl vl vu .none->IsPart vl lo->IsPart vu hi->r x lo hi H Q ->
  ∃T id,typeLookup (.type T) "__getitem__"=pure (some (.builtin id))/\s.TypeIs v T/\wpAny (model X.prog X.w) X.A (getItem v (.ref sl)) (EP X pins Z Q) X.xe s
def KU(r:V->Option Int->Option Int->Hp->VK->Prop)(te:TE)(tl th:TO):TE:=λZ H Q=>te Z H λx H1=>tl Z H1 λl H2=>th Z H2 λu H3=>r x l u H3 Q
theorem JI{r:V->Option Int->Option Int->Hp->VK->Prop}(hr:vq X r)(he:PE X e te)(hl:PO X lo tl)(hu:PO X hi th):PE X (.Subscript e (.Slice lo hi none p2) pos) (KU r te tl th):=by
 intro pins s Z H Q I h;refine Subscript_ (cq (he pins s Z H _ I h) λv s1 aZ=>?_);obtain⟨x,H1,I1,r1,q1⟩:=aZ;refine wpAny_Slice (cq (hl pins s1 Z H1 _ I1 q1) λvl s2 ⟨l,H2,I2,pl,q2⟩=>cq (hu pins s2 Z H2 _ I2 q2) λvu s3 aZ=>?_);obtain⟨u,H3,I3,pu,q3⟩:=aZ;refine aj ?_;have I4:Inv X pins Z H3 { s3 with heap:=s3.heap.push { cls:=.type "slice",data:=.fields #[vl,vu,.none] } }:=I3.kept (t':=s3.toks) λb ob q=>ai _ q;obtain⟨T,id,hT,ht,hg⟩:=hr pins { s3 with heap:=s3.heap.push { cls:=.type "slice",data:=.fields #[vl,vu,.none] } } Z H3 x v vl vu l u s3.heap.objs.size Q I4 r1 (Heap.IsSliceOf.new ..) pl pu q3;exact tail_any (ops:=[.ref s3.heap.objs.size,v]) ht hT hg (by rfl)
def U9(xs:List V)(lo hi:Option Int):List V:=(xs.drop (HT.dG xs.length 0 lo)).take (HT.dG xs.length xs.length hi-HT.dG xs.length 0 lo)
theorem HE(xs:List V)(lo hi:Option Int):(U9 xs lo hi).length<=xs.length:=by
 unfold U9;rw[cy,ku];omega
def Ua(K:PySem.W.Frag):V->Option Int->Option Int->Hp->VK->Prop:=λx lo hi H Q=>∃a xs,x=.ref a/\gY K H a xs /\
 ¬(HT.dG xs.length 0 lo=0/\HT.dG xs.length xs.length hi=xs.length)/\∀p,H p=none->Q (.ref p) (upd H p (.tup (U9 xs lo hi)))
theorem Ou:vq X (Ua X.K):=by
 intro pins s Z H x v vl vu lo hi sl Q I rx hs pl pu h;obtain⟨a,xs,rfl,hx,hw,q⟩:=h;cases rx;obtain⟨aX,r,ht,hz⟩:=I.tuple hx;have hlen:aX.toArray.size=xs.length:=by exact r.length.symm
 refine⟨"tuple",_,bI.lookup,ht.typeIs,?_⟩;refine HT.Yo ht hs pl pu (by rw[hlen];exact hw) ?_ (by rw[hlen];exact hz);rw[hlen];refine⟨.ref s.heap.objs.size,_,I.laid (t':=s.toks) (o:=.tup (U9 xs lo hi)) (λb ob q=>ai _ q) (au _) ?_,rfl,q _ (I.bz.fresh (au _))⟩;exact⟨aA (HE xs lo hi) hz,_,(r.drop (HT.dG xs.length 0 lo)).take (HT.dG xs.length xs.length hi-HT.dG xs.length 0 lo),Q5.new _ _⟩
def VU(K:PySem.W.Frag):R2:=λx y H Q=>∃a b xs ys,x=.ref a/\y=.ref b/\gY K H a xs/\gY K H b ys/\xs≠[]/\xs.length+ys.length<=sizeLine /\
 (ys=[]->Q (.ref a) H)/\(ys≠[]->∀p,H p=none->Q (.ref p) (upd H p (.tup (xs++ys))))
theorem Vals.vd{xs:List V}{us:List Value}(r:Vals xs us):us=[]↔xs=[]:=by
 cases r with
 |nil=>simp
 |cons _ _=>simp
theorem P':fo X (binaryOp .Add) (VU X.K):=by
 intro pins s Z H x y v u Q I rx ry h;obtain⟨a,b,xs,ys,rfl,rfl,ha,hb,hx,hz,q1,q2⟩:=h;cases rx;cases ry;obtain⟨aX,r1,p1,_⟩:=I.tuple ha;obtain⟨lL,r2,p2,_⟩:=I.tuple hb;refine HT.Pe p1 p2 (λz=>hx (r1.vd.mp z)) (λz=>⟨.ref a,H,I,rfl,q1 (r2.vd.mp z)⟩) (λz=>?_) (by rw[<- r1.length,<- r2.length];exact hz);refine⟨.ref s.heap.objs.size,_,I.laid (t':=s.toks) (o:=.tup (xs++ys)) (λb ob q=>ai _ q) (au _) ?_,rfl,q2 (λw=>z (r2.vd.mpr w)) _ (I.bz.fresh (au _))⟩;exact⟨by rw[dh];exact hz,_,r1.append r2,Q5.new _ _⟩
end
def mz(n:Nat)(i:Int):Option Nat:=if 0<=i then(if i<n then some i.toNat else none) else if -(n:Int)<=i then some (i+n).toNat else none
def iH{α:Type}(xs:List α)(i:Int):Option α:=(mz xs.length i).bind λj=>xs[j]?
theorem IM{i:Int}{j:Nat}(h:mz n i=some j):seqIndex? i n=some j/\j<n/\-(n:Int)<=i/\i<n:=by
 unfold mz at h;by_cases h0:0<=i
 ·rw[aN h0] at h;by_cases h1:i<n
  ·rw[aN h1] at h;have e:i.toNat=j:=aD h;exact⟨by rw[seqIndex_of h0 h1,e],by omega,by omega,h1⟩
  simp_all
 ·rw[aG h0] at h;by_cases h1:-(n:Int)<=i
  ·rw[aN h1] at h;have e:(i+n).toNat=j:=aD h;exact⟨by rw[seqIndex_neg () h1,e],by omega,h1,by omega⟩
  simp_all
theorem IB{α:Type}{xs:List α}{i:Int}{v:α}(h:iH xs i=some v):∃j,seqIndex? i xs.length=some j/\xs[j]?=some v/\j<xs.length/\-(xs.length:Int)<=i/\i<xs.length:=by
 unfold iH at h;cases e:mz xs.length i with
 |none=>simp_all
 |some j =>
  rw[e] at h;obtain⟨h1,h2,h3,h4⟩:=IM e;exact⟨j,h1,h,h2,h3,h4⟩
theorem O8{α:Type}{xs:List α}{j:Nat}{v:α}(h:xs[j]?=some v):iH xs (j:Int)=some v:=by
 have hj:j<xs.length:=(ao.mp h).1;have e:mz xs.length (j:Int)=some j:=by
  unfold mz
  simp_all
 unfold iH;rw[e];exact h
def AN(b:Expr):Prop:=∀o i,subscripted b false o i=operate [o,i] (getItem o i)
def sj(X:Cx)(r:R2):Prop :=
 ∀(value slice:Expr) (pins:List (Addr×Obj)) (s:Shared) (Z:St) (H:Hp) (x y:V) (v u:Value) (Q:VK),Inv X pins Z H s->RelV x v->RelV y u->r x y H Q ->
  subscripted slice false v u=operate [v,u] (getItem v u)->wpAny (model X.prog X.w) X.A (subscriptTail value slice v u) (EP X pins Z Q) X.xe s
def kn(X:Cx)(id:String)(r:V->List V->Hp->VK->Prop):Prop :=
 ∀(pins:List (Addr×Obj)) (s:Shared) (Z:St) (H:Hp) (x:V) (xs:List V) (v:Value) (us:List Value) (Q:VK),Inv X pins Z H s->RelV x v->Vals xs us->r x xs H Q ->
  wpAny (model X.prog X.w) X.A (call (.builtin id) (v::us)) (EP X pins Z Q) X.xe s
section
variable{a b:Expr}{ta tb:TE}
theorem FN{r:R2}(hr:sj X r)(ha:PE X a ta)(hb:PE X b tb)(hs:AN b):PE X (.Subscript a b pos) (oh r ta tb):=by
 intro pins s Z H Q I h;exact Subscript_ (AF ha hb I h λv u s2 x y H2 I2 rx ry q=>hr a b pins s2 Z H2 x y v u Q I2 rx ry q (hs _ _))
def TU(K:PySem.W.Frag):R2:=λx y H Q=>∃p xs i v,x=.ref p/\y=.int i/\eQ K H p xs/\iH xs i=some v/\Q v H
def TV(K:PySem.W.Frag):R2:=λx y H Q=>∃p xs i v,x=.ref p/\y=.int i/\gY K H p xs/\iH xs i=some v/\Q v H
theorem Pw:sj X (TU X.K):=by
 intro value slice pins s Z H x y v u Q I rx ry h hs;obtain⟨p,xs,i,z,rfl,rfl,hq,he,q⟩:=h;cases rx;obtain⟨t,rfl⟩:=ry;obtain⟨aX,r,pl,hz⟩:=I.list hq;obtain⟨j,h1,h2,h3,h4,h5⟩:=IB he;obtain⟨w,ew,eW⟩:=r.get h2;have hl:=r.length;have hn:=wN;have fin:EP X pins Z Q w s:=⟨z,H,I,eW,q⟩
 by_cases h0:0<=i
 ·have hj:i.toNat=j:=by
   rw[seqIndex_of h0 h5] at h1;exact aD h1
  exact item_listR pl.isList h0 () (by rw[hj];simpa using ew) fin hs
 ·have hj:(i+(aX.toArray.size:Int)).toNat=j:=by
   rw[seqIndex_neg () h4] at h1;rw[aP,<- hl];exact aD h1
  exact subscriptTail_builtinR (x:=w) pl.isList.typeIs slot_list_getitem.lookup
   (wpAny_getItem_list_neg (Q:=λr s'=>r=w/\EP X pins Z Q r s') pl.isList () (by rw[aP]<;>omega) () (by rw[hj];simpa using ew) ⟨rfl,fin⟩) hs
theorem WV:sj X (TV X.K):=by
 intro value slice pins s Z H x y v u Q I rx ry h hs;obtain⟨p,xs,i,z,rfl,rfl,hq,he,q⟩:=h;cases rx;obtain⟨t,rfl⟩:=ry;obtain⟨aX,r,pl,hz⟩:=I.tuple hq;obtain⟨j,h1,h2,h3,h4,h5⟩:=IB he;obtain⟨w,ew,eW⟩:=r.get h2;have hl:=r.length;have hn:=wN;have fin:EP X pins Z Q w s:=⟨z,H,I,eW,q⟩
 exact subscriptTail_builtinR (x:=w) pl.typeIs slot_tuple_getitem.lookup
  (getItem_tuple (j:=j) (Q:=λr s'=>r=w/\EP X pins Z Q r s') pl () () (by rw[aP,<- hl];exact h1) (by simpa using ew) ⟨rfl,fin⟩) hs
theorem YV(aX:List Value)(n j:Nat)(u:Value):Obj.mapSeq (·.setIfInBounds j u) { cls:=.type "list",data:=.seq aX.toArray n }={ cls:=.type "list",data:=.seq (aX.set j u).toArray n }:=by
 simp[Obj.mapSeq]
theorem Inv.lst{pins:List (Addr×Obj)}{Z:St}{H:Hp}{s:Shared}{p:Addr}{xs:List V}(I:Inv X pins Z H s)(h:H p=some (.lst xs)) :
  ∃(aX:List Value) (n:Nat),Vals xs aX/\s.heap.get? p=some { cls:=.type "list",data:=.seq aX.toArray n }/\xs.length<=sizeLine:=by
 obtain⟨z,aX,n,r,e⟩:=I.bz p _ h;exact⟨aX,n,r,e,z⟩
theorem Inv.Xf{p:Addr}{xs ys:List V}{its':List Value}{n':Nat}{f:Obj->Obj}(I:Inv X pins Z H s)(h:H p=some (.lst xs))(ho:s.heap.get? p=some { cls:=.type "list",data:=.seq aX.toArray n })(hf:f { cls:=.type "list",data:=.seq aX.toArray n }={ cls:=.type "list",data:=.seq its'.toArray n' })(r:Vals ys its')(hz:ys.length<=sizeLine)(t:Nat) :
  Inv X pins Z (upd H p (.lst ys)) { s with heap:=s.heap.update p f,toks:=t }:=by
 have e:(s.heap.update p f).get? p=some { cls:=.type "list",data:=.seq its'.toArray n' }:=by
  rw[aW f ho (by rw[hf]<;>rfl),hf]
 refine I.write (x:=p) (e:=p) (by rw[h];trivial) (.inl rfl) (λb u hb q=>(bW _ _ (bf hb)).trans q) ⟨_,e⟩ ?_;exact⟨hz,its',n',r,e⟩
def VX:V->V->V->Hp->(Hp->Prop)->Prop:=λo i v H Q=>∃p xs k j,o=.ref p/\i=.int k/\H p=some (.lst xs)/\mz xs.length k=some j/\Q (upd H p (.lst (xs.set j v)))
theorem set_list:Az X VX:=by
 intro pins s Z H o i v ov iv u Q I ro ri rv h;obtain⟨p,xs,k,j,rfl,rfl,hp,hj,q⟩:=h;cases ro;obtain⟨t,rfl⟩:=ri;obtain⟨aX,n,r,ho,hz⟩:=I.lst hp;obtain⟨h1,h2,h3,h4⟩:=IM hj;have hl:=r.length;have hn:=wN;have I':Inv X pins Z (upd H p (.lst (xs.set j v))) { s with heap:=s.heap.update p (Obj.mapSeq (·.setIfInBounds j u)) } :=
  I.Xf hp ho (YV aX n j u) (r.set rv j) (by rw[List.length_set];exact hz) s.toks
 by_cases h0:0<=k
 ·have hk:k.toNat=j:=by
   rw[seqIndex_of h0 h4] at h1;exact aD h1
  exact PySem.W.ki_setAt ho h0 () (by rw[aP,<- hl];exact h4) (by rw[hk];exact⟨_,I',q⟩)
 ·have hk:(k+(aX.toArray.size:Int)).toNat=j:=by
   rw[seqIndex_neg () h3] at h1;rw[aP,<- hl];exact aD h1
  exact PySem.W.ki_setBack ho () (by rw[aP,<- hl];exact h3) () (by rw[hk];exact⟨_,I',q⟩)
theorem aE8(lo hi:Option Int)(n:Nat):(sliceBounds lo hi none n).1=((HT.dG n 0 lo:Nat):Int)/\(sliceBounds lo hi none n).2.1=((HT.dG n n hi:Nat):Int)/\(sliceBounds lo hi none n).2.2=1:=by
 refine⟨?_,?_,rfl⟩
 ·cases lo with
  |none=>rfl
  |some i =>
   simp only[sliceBounds,HT.dG,Option.getD_none,show(1:Int)>0 by decide,if_true]
   grind
 ·cases hi with
  |none=>rfl
  |some i =>
   simp only[sliceBounds,HT.dG,Option.getD_none,show(1:Int)>0 by decide,if_true]
   grind
theorem aA4(aX:List Value)(lo hi:Option Int):slicePick aX.toArray lo hi none=((aX.drop (HT.dG aX.length 0 lo)).take (HT.dG aX.length aX.length hi-HT.dG aX.length 0 lo)).toArray:=by
 obtain⟨h1,h2,h3⟩:=aE8 lo hi aX.toArray.size;unfold slicePick;rw[h1,h2,h3];simp only[sliceRange_one,pick_run,List.size_toArray]<;>rfl
def TZ(K:PySem.W.Frag):V->Option Int->Option Int->Hp->VK->Prop:=λx lo hi H Q=>∃a xs,x=.ref a/\eQ K H a xs/\∀p,H p=none->Q (.ref p) (upd H p (.lst (U9 xs lo hi)))
theorem QQ:vq X (TZ X.K):=by
 intro pins s Z H x v vl vu lo hi sl Q I rx hs pl pu h;obtain⟨a,xs,rfl,hx,q⟩:=h;cases rx;obtain⟨aX,r,ht,hz⟩:=I.list hx;have hlen:=r.length;refine⟨"list",_,slot_list_getitem.lookup,ht.isList.typeIs,?_⟩;refine wpAny_getItem_list_slice ht.isList hs pl pu .none (by simp) ?_ (by grind);rw[aA4,<- hlen];refine⟨.ref s.heap.objs.size,_,I.laid (t':=s.toks) (o:=.lst (U9 xs lo hi)) (λb ob q=>ai _ q) (au _) ?_,rfl,q _ (I.bz.fresh (au _))⟩;exact⟨aA (HE xs lo hi) hz,_,0,(r.drop (HT.dG xs.length 0 lo)).take (HT.dG xs.length xs.length hi-HT.dG xs.length 0 lo),ax _ rfl⟩
def E5:V->Bool
 |.bc=>true
 |.bl _=>true
 |.int _=>true
 |.str _=>true
 |_=>false
def jW:V->V->Bool
 |.bc,.bc=>true
 |.bl a,.bl b=>a==b
 |.bl a,.int b=>(if a then 1 else 0)==b
 |.int a,.bl b=>a==(if b then 1 else 0)
 |.int a,.int b=>a==b
 |.str a,.str b=>a==b
 |_,_=>false
theorem WM{v:Value}(ry:RelV y u)(rx:RelV x v)(fy:E5 y=true)(fx:E5 x=true):SeqAt.EqAt A s u v (jW y x):=by
 cases y with
 |bc =>
  cases ry;cases x with
  |bc=>cases rx;exact SeqAt.EqAt.same _
  |bl b=>cases rx;exact SeqAt.EqAt.none_bool b
  |int b=>obtain⟨t,rfl⟩:=rx;exact SeqAt.EqAt.none_int b t
  |str b=>obtain⟨t,rfl⟩:=rx;exact SeqAt.EqAt.none_str b t
  |_=>exact absurd (show false=true from fx) Bool.false_ne_true
 |bl a =>
  cases ry;cases x with
  |bc=>cases rx;exact SeqAt.EqAt.bool_none a
  |bl b=>cases rx;exact SeqAt.EqAt.bool_bool a b
  |int b=>obtain⟨t,rfl⟩:=rx;exact SeqAt.EqAt.bool_int a b t
  |str b=>obtain⟨t,rfl⟩:=rx;exact SeqAt.EqAt.bool_str a b t
  |_=>exact absurd (show false=true from fx) Bool.false_ne_true
 |int a =>
  obtain⟨t',rfl⟩:=ry;cases x with
  |bc=>cases rx;exact SeqAt.EqAt.int_none a t'
  |bl b=>cases rx;exact SeqAt.EqAt.int_bool a t' b
  |int b=>obtain⟨t,rfl⟩:=rx;exact SeqAt.EqAt.int_int a t' b t
  |str b=>obtain⟨t,rfl⟩:=rx;exact SeqAt.EqAt.int_str a t' b t
  |_=>exact absurd (show false=true from fx) Bool.false_ne_true
 |str a =>
  obtain⟨t',rfl⟩:=ry;cases x with
  |bc=>cases rx;exact SeqAt.EqAt.str_none a t'
  |bl b=>cases rx;exact SeqAt.EqAt.str_bool a t' b
  |int b=>obtain⟨t,rfl⟩:=rx;exact SeqAt.EqAt.str_int a t' b t
  |str b=>obtain⟨t,rfl⟩:=rx;exact SeqAt.EqAt.str_str a t' b t
  |_=>exact absurd (show false=true from fx) Bool.false_ne_true
 |_=>exact absurd (show false=true from fy) cA
def lb(x:V)(u:Value):Bool:=match u with
 |.none=>jW .bc x
 |.bool b=>jW (.bl b) x
 |.int i _=>jW (.int i) x
 |.str z _=>jW (.str z) x
 |_=>false
theorem wK(r:RelV y u)(f:E5 y=true):lb x u=jW y x:=by
 cases y with
 |bc=>cases r;rfl
 |bl b=>cases r;rfl
 |int i=>obtain⟨t,rfl⟩:=r;rfl
 |str z=>obtain⟨t,rfl⟩:=r;rfl
 |_=>exact absurd (show false=true from f) cA
theorem AR{x:V}:∀{xs:List V} {us:List Value},Vals xs us->xs.all E5=true->us.any (lb x)=xs.any λy=>jW y x
 |_,_,.nil,_=>rfl
 |y::xs,u::us,.cons r t,f=>by
  rw[gn,aT] at f;rw[gk,gk,wK r f.1,AR t f.2]
theorem xo{A:Around}{s:Shared}{x:V}{v:Value}(rx:RelV x v)(fx:E5 x=true):∀{xs:List V} {us:List Value},Vals xs us->xs.all E5=true->∀u∈us,SeqAt.EqAt A s u v (lb x u)
 |_,_,.nil,_=>λu hu=>by cases hu
 |y::xs,u::us,.cons r t,f=>λu' hu=>by
  rw[gn,aT] at f;rcases aC.mp hu with rfl|hu
  ·rw[wK r f.1];exact WM r rx f.1 fx
  ·exact xo rx fx t f.2 u' hu
def wa(x:V)(xs:List V):Bool:=xs.any λy=>jW y x
def yt(K:PySem.W.Frag)(neg:Bool):R2:=λx y H Q=>∃p xs,y=.ref p/\(eQ K H p xs\/gY K H p xs)/\E5 x=true/\xs.all E5=true/\Q (.bl (if neg then !wa x xs else wa x xs)) H
theorem aG2:fo X (compareOp .NotIn) (yt X.K true):=by
 intro pins s Z H x y v u Q I rx ry h;obtain⟨p,xs,rfl,hq,fx,fs,q⟩:=h;cases ry;rcases hq with hq|hq
 ·obtain⟨aX,r,pl,hz⟩:=I.list hq;refine SeqAt.notIn_listAt (lb x) pl.isList (λw hw=>xo rx fx r fs w (by simpa using hw)) ⟨.bl _,H,I,rfl,?_⟩;rw[show aX.toArray.any (lb x)=aX.any (lb x) by simp,AR r fs];exact q
 ·obtain⟨aX,r,pl,hz⟩:=I.tuple hq;refine SeqAt.notIn_tupleAt (lb x) pl (λw hw=>xo rx fx r fs w (by simpa using hw)) ⟨.bl _,H,I,rfl,?_⟩;rw[show aX.toArray.any (lb x)=aX.any (lb x) by simp,AR r fs];exact q
theorem ZQ:j8 X (.builtin "len") (λxs H Q=>∃p ys,xs=[.ref p]/\(eQ X.K H p ys\/gY X.K H p ys)/\Q (.int ys.length) H):=by
 intro pins s Z H xs us Q I r h;obtain⟨p,ys,rfl,hq,q⟩:=h;obtain⟨u,rfl,rx⟩:=vals1 r;cases rx;have hn:=wN;rcases hq with hq|hq
 ·obtain⟨aX,r',pl,hz⟩:=I.list hq;have hlen:=r'.length;exact Calls.call_len_list pl.isList (by simp only[List.size_toArray]<;>omega) ⟨.int ys.length,H,I.tok _,⟨s.toks+1,by rw[aP,hlen]⟩,q⟩
 ·obtain⟨aX,r',pl,hz⟩:=I.tuple hq;have hlen:=r'.length;exact len_tuple pl (by simp only[List.size_toArray]<;>omega) ⟨.int ys.length,H,I.tok _,⟨s.toks+1,by rw[aP,hlen]⟩,q⟩
theorem ZR:j8 X (.type "list") (λxs H Q=>∃p ys,xs=[.ref p]/\(eQ X.K H p ys\/gY X.K H p ys)/\∀l,H l=none->Q (.ref l) (upd H l (.lst ys))):=by
 intro pins s Z H xs us Q I r h;obtain⟨p,ys,rfl,hq,q⟩:=h;obtain⟨u,rfl,rx⟩:=vals1 r;cases rx;have fin:∀(aX:List Value),Vals ys aX->ys.length<=sizeLine->∀(h':Heap) (c':Nat),(∀b o',s.heap.get? b=some o'->h'.get? b=some o') ->
   h'.get? s.heap.objs.size=some { cls:=.type "list",dict:=none,data:=.seq aX.toArray c',slots:=#[] }->EP X pins Z Q (.ref s.heap.objs.size) { s with heap:=h' }:=λaX r' hz h' c' kp e =>
  ⟨.ref s.heap.objs.size,_,I.laid (t':=s.toks) kp (au _) (show j4 X.prog X.w _ h' _ (.lst ys) from⟨hz,aX,c',r',e⟩),rfl,q _ (I.bz.fresh (au _))⟩
 rcases hq with hq|hq
 ·obtain⟨aX,r',pl,hz⟩:=I.list hq;have hlen:=r'.length;obtain⟨o,ho,hc,n,hd⟩:=pl.isList;exact call_list_seq p (.inl rfl) ho hc hd (λh' c' kp e=>fin aX r' hz h' c' kp e) (by simp_all)
 ·obtain⟨aX,r',pl,hz⟩:=I.tuple hq;have hlen:=r'.length;obtain⟨o,ho,hc,n,hd⟩:=pl;exact call_list_seq p (.inr rfl) ho hc hd (λh' c' kp e=>fin aX r' hz h' c' kp e) (by simp_all)
def mx(K:PySem.W.Frag)(T:String)(x:V)(H:Hp):Prop:=match x with
 |.str _=>T="str"
 |.int _=>T="int"
 |.ref p=>(T="list"/\∃xs,eQ K H p xs)\/(T="tuple"/\∃o,K.lookup p=some o/\o.cls=.type "tuple"/\o.dict=none) \/
   (T="dict"/\((∃kvs,H p=some (.dK kvs))\/∃kvs,H p=some (.dT kvs)))\/(T="set"/\∃S n,H p=some (.set S n))
 |_=>False
theorem Iq{T:String}{v:Value}(I:Inv X pins Z H s)(r:RelV x v)(ty:mx X.K T x H) :
  s.TypeIs v T/\∀a,v=.ref a->∃ob,s.heap.get? a=some ob/\ob.dict=none:=by
 cases x with
 |str z =>
  obtain⟨t,rfl⟩:=r;cases (show T="str" from ty);exact⟨typeIs_str s z t,λ_ e=>nomatch e⟩
 |int i =>
  obtain⟨t,rfl⟩:=r;cases (show T="int" from ty);exact⟨typeIs_int s i t,λ_ e=>nomatch e⟩
 |ref p =>
  cases r;rcases ty with⟨rfl,xs,hq⟩|⟨rfl,o,hk,hc,hd⟩|⟨rfl,hk⟩|⟨rfl,S,n,hk⟩
  ·obtain⟨aX,_,pl,_⟩:=I.list hq;refine⟨pl.isList.typeIs,λa e=>?_⟩;cases e;obtain⟨o,n,e,c,hd,_⟩:=pl;exact⟨o,e,hd⟩
  ·refine⟨⟨o,I.fS p o hk,hc⟩,λa e=>?_⟩;cases e;exact⟨o,I.fS _ o hk,hd⟩
  ·have z:∃o,s.heap.get? p=some o/\o.ExactDict:=by
    rcases hk with⟨kvs,hk⟩|⟨kvs,hk⟩
    ·obtain⟨_,_,_,_,o,_,_,e,ex,_⟩:=I.bz p _ hk;exact⟨o,e,ex⟩
    ·obtain⟨_,_,_,_,o,_,_,e,ex,_⟩:=I.bz p _ hk;exact⟨o,e,ex⟩
   obtain⟨o,e,ex⟩:=z;refine⟨⟨o,e,ex.1⟩,λa e2=>?_⟩;cases e2;exact⟨o,e,ex.2.1⟩
  ·obtain⟨o,_,_,_,e,ex,_⟩:=I.bz p _ hk;refine⟨⟨o,e,ex.1⟩,λa e2=>?_⟩;cases e2;exact⟨o,e,ex.2.1⟩
 |_=>exact False.elim ty
def Uo(K:PySem.W.Frag)(T:String)(r:V->List V->Hp->VK->Prop)(to:TE):TE:=λZ H Q=>to Z H λx H1=>mx K T x H1/\r x [] H1 Q
def KZ(K:PySem.W.Frag)(T:String)(r:V->List V->Hp->VK->Prop)(to:TE)(t:TA):TE:=λZ H Q=>to Z H λx H1=>mx K T x H1/\t Z H1 λxs H2=>r x xs H2 Q
variable{o:Expr}{es:List Expr}{to:TE}{t:TA}{name:Str}{apos dU:Pos}{T id:String}{r:V->List V->Hp->VK->Prop}
theorem Xz(pa:PlainAttrs T)(slot:Slot T name id)(pG:typeOf (.builtin id)=pure (.type "method_descriptor"))(hm:kn X id r)(ho:PE X o to)(fb:attributeBase o name X.env (eval o X.env)=eval o X.env:=by rfl)(eZ:(apos.endLine==dU.line)=true:=by rfl):PE X (.Call (.Attribute o name apos) [] [] dU) (Uo X.K T r to):=by
 intro pins s Z H Q I h;refine wpAny_Call_method0_late fb eZ (cq (ho pins s Z H _ I h) λv s1 aZ=>?_);obtain⟨x,H1,I1,r1,ty,q1⟩:=aZ;obtain⟨h1,h2⟩:=Iq I1 r1 ty;exact⟨T,id,pa,slot,pG,h1,h2,iT rfl (Dj (hm pins s1 Z H1 x [] v [] Q I1 r1 .nil q1))⟩
theorem VM(pa:PlainAttrs T)(slot:Slot T name id)(pG:typeOf (.builtin id)=pure (.type "method_descriptor"))(hm:kn X id r)(ho:PE X o to)(ha:PA X (e::es) t)(fb:attributeBase o name X.env (eval o X.env)=eval o X.env:=by rfl)(jT:((backTo dU (starEach (e :: es) X.env)).all (λx=>!x.1) && (backToKw dU (keywordEach [] X.env)).all (λx=>x.1.isSome)
   && decide ((e :: es).length + ([]:List Keyword).length + (if ([]:List Keyword).isEmpty then 0 else 1) < 30))=true:=by rfl)(eZ:(apos.endLine==dU.line)=true:=by rfl)(hs:starEach (e::es) X.env=(false,eval e X.env)::starEach es X.env:=by rfl)(eE:(backTo dU (starEach es X.env)).any (·.1)=false:=by rfl) :
  PE X (.Call (.Attribute o name apos) (e::es) [] dU) (KZ X.K T r to t):=by
 intro pins s Z H Q I h;refine wpAny_Call_method_late fb jT eZ rfl (cq (ho pins s Z H _ I h) λv s1 aZ=>?_);obtain⟨x,H1,I1,r1,ty,q1⟩:=aZ;obtain⟨h1,h2⟩:=Iq I1 r1 ty;refine⟨T,id,pa,slot,pG,h1,h2,?_⟩;have hA:=ha dU pins s1 Z H1 _ I1 q1;rw[hs] at hA ⊢;refine iT (by show(false||(backTo dU (starEach es X.env)).any (·.1))=false;rw[eE]<;>rfl) (jN ?_);exact cq hA λus s2 ⟨vs,H2,I2,r2,q2⟩=>hm pins s2 Z H2 x vs v us Q I2 r1 r2 q2
end
def xS(X:Cx)(id:String)(r:V->List V->Hp->VK->Prop):Prop :=
 ∀(pins:List (Addr×Obj)) (s:Shared) (Z:St) (H:Hp) (x:V) (xs:List V) (v:Value) (us:List Value) (Q:VK),Inv X pins Z H s->RelV x v->Vals xs us->r x xs H Q ->
  wpAny (model X.prog X.w) X.A (call (.builtin id) (v::us)) (EP X pins Z Q) X.xe s
theorem Vals.one{us:List Value}(h:Vals [x] us):∃u,us=[u]/\RelV x u:=by
 cases h with
 |cons r h =>
  cases h;exact⟨_,rfl,r⟩
theorem Vals.zero:∀{us:List Value},Vals [] us->us=[]
 |_,.nil=>rfl
theorem Vals.dropLast{xs:List V}{us:List Value}(h:Vals xs us):Vals xs.dropLast us.dropLast:=by
 induction h with
 |nil=>exact .nil
 |cons r t ih =>
  cases t with
  |nil=>exact .nil
  |cons q t'=>exact .cons r ih
theorem Vals.eraseIdx:∀{xs:List V} {us:List Value} (i:Nat),Vals xs us->Vals (xs.eraseIdx i) (us.eraseIdx i)
 |_,_,_,.nil=>.nil
 |_,_,0,.cons _ t=>t
 |_,_,i+1,.cons r t=>.cons r (Vals.eraseIdx i t)
theorem Vals.reverse{xs:List V}{us:List Value}(h:Vals xs us):Vals xs.reverse us.reverse:=by
 induction h with
 |nil=>exact .nil
 |cons r t ih=>rw[fZ,fZ];exact Vals.append ih (.cons r .nil)
theorem GO{α:Type}:∀(l:List α) (i:Nat),(l.eraseIdx i).length<=l.length
 |[],_=>au _
 |_::_,0=>iB _
 |_::r,i+1=>Nat.succ_le_succ (GO r i)
section
variable{l:Addr}{xs ys:List V}
theorem Inv.Z1{its':List Value}{f:Array Value->Array Value}{t':Nat}(I:Inv X pins Z H s)(hH:H l=some (.lst xs))(e:s.heap.get? l=some { cls:=.type "list",data:=.seq aX.toArray n })(hf:f aX.toArray=its'.toArray)(hv:Vals ys its')(hz:ys.length<=sizeLine) :
  Inv X pins Z (upd H l (.lst ys)) { s with heap:=s.heap.update l (Obj.mapSeq f),toks:=t' }:=by
 have q:=PySem.IsL.update e f;rw[hf] at q;refine I.write (x:=l) (e:=l) (by rw[hH];exact trivial) (.inl rfl) (λb' u hb hu=>(bW s.heap (Obj.mapSeq f) (bf hb)).trans hu) ⟨_,q⟩ ?_;exact⟨hz,its',_,hv,q⟩
theorem Inv.To{t':Nat}(I:Inv X pins Z H s)(hv:Vals ys aX)(hz:ys.length<=sizeLine) :
  Inv X pins Z (upd H s.heap.objs.size (.lst ys)) { s with heap:=s.heap.push { cls:=.type "list",data:=.seq aX.toArray },toks:=t' } :=
 I.laid (λ_ _ q=>ai _ q) (au _) ⟨hz,aX,0,hv,ax _ rfl⟩
theorem Inv.fresh(I:Inv X pins Z H s):H s.heap.objs.size=none:=I.bz.fresh (au _)
theorem Inv.rm(I:Inv X pins Z H s)(hH:H l=some (.lst xs)):xs.length<=sizeLine/\∃(aX:List Value) (n:Nat),Vals xs aX/\xs.length=aX.length/\s.heap.get? l=some { cls:=.type "list",data:=.seq aX.toArray n }:=by
 obtain⟨z,aX,n,r,e⟩:=I.bz l _ hH;exact⟨z,aX,n,r,r.length,e⟩
end
def Qz:V->List V->Hp->VK->Prop:=λx vs H Q=>∃l xs y,x=.ref l/\vs=[y]/\H l=some (.lst xs)/\xs.length<sizeLine/\Q .bc (upd H l (.lst (xs++[y])))
theorem a25:xS X "list.append" Qz:=by
 intro pins s Z H x vs v us Q I rx rv h;obtain⟨l,xs,y,rfl,rfl,hH,hz,q⟩:=h;cases rx;obtain⟨u,rfl,ru⟩:=rv.one;obtain⟨z,aX,n,r,hl,e⟩:=I.rm hH;refine eL F.slot_list_append ⟨_,e,rfl⟩ F.entry_list_append (F.args_list_append_2 _ _) (PySem.list_append l aX.toArray n u (by grind)) ⟨e,?_⟩;refine⟨.bc,_,I.Z1 (its':=aX++[u]) hH e (by simp) (r.append (.cons ru .nil)) ?_,rfl,q⟩
 grind
def TX:V->List V->Hp->VK->Prop:=λx vs H Q=>∃l xs y,x=.ref l/\vs=[]/\H l=some (.lst xs)/\xs[xs.length-1]?=some y/\Q y (upd H l (.lst xs.dropLast))
theorem Xi:xS X "list.pop" TX:=by
 intro pins s Z H x vs v us Q I rx rv h;obtain⟨l,xs,y,rfl,rfl,hH,hy,q⟩:=h;cases rx;have yO:=rv.zero;subst yO;obtain⟨z,aX,n,r,hl,e⟩:=I.rm hH;obtain⟨u,hu,ru⟩:=r.get hy;have LL:aX.toArray[aX.toArray.size-1]?=some u:=by
  show aX.toArray[aX.length-1]?=some u;rw[<- ij,<- hl];exact hu
 refine eL F.slot_list_pop ⟨_,e,rfl⟩ F.entry_list_pop (F.args_list_pop_1 _) (MeetsSeq.list_pop_last l aX.toArray n u LL (by rw[aP];omega)) ⟨e,?_⟩;refine⟨y,_,I.Z1 (its':=aX.dropLast) hH e ?_ r.dropLast ?_,ru,q⟩
 ·simp
 ·rw[List.length_dropLast];omega
def XZ:V->List V->Hp->VK->Prop:=λx vs H Q=>∃l xs i k y,x=.ref l/\vs=[.int i]/\H l=some (.lst xs)/\-(2 ^ 63)<=i/\i<2 ^ 63/\seqIndex? i xs.length=some k/\xs[k]?=some y/\Q y (upd H l (.lst (xs.eraseIdx k)))
theorem Sb:xS X "list.pop" XZ:=by
 intro pins s Z H x vs v us Q I rx rv h;obtain⟨l,xs,i,k,y,rfl,rfl,hH,h1,h2,hk,hy,q⟩:=h;cases rx;obtain⟨u,rfl,ru⟩:=rv.one;obtain⟨t,rfl⟩:=ru;obtain⟨z,aX,n,r,hl,e⟩:=I.rm hH;obtain⟨w,hw,eW⟩:=r.get hy;refine eL F.slot_list_pop ⟨_,e,rfl⟩ F.entry_list_pop (F.args_list_pop_2 _ _)
  (MeetsSeq.list_pop_at l aX.toArray n i t k w (fitsIndex_both h1 h2) (by rw[aP,<- hl];exact hk) (by simp_all) (by rw[aP];omega)) ⟨e,?_⟩
 refine⟨y,_,I.Z1 (its':=aX.eraseIdx k) hH e ?_ (r.eraseIdx k) ?_,eW,q⟩
 ·simp
 ·have:=GO xs k;omega
def XY:V->List V->Hp->VK->Prop:=λx vs H Q=>∃l xs,x=.ref l/\vs=[]/\H l=some (.lst xs)/\Q .bc (upd H l (.lst []))
theorem Sa:xS X "list.clear" XY:=by
 intro pins s Z H x vs v us Q I rx rv h;obtain⟨l,xs,rfl,rfl,hH,q⟩:=h;cases rx;have yO:=rv.zero;subst yO;obtain⟨z,aX,n,r,hl,e⟩:=I.rm hH;refine eL F.slot_list_clear ⟨_,e,rfl⟩ F.entry_list_clear (F.args_list_clear_1 _) (AutoSeq1.list_clear_list_0 l aX.toArray n (by rw[aP];omega)) ⟨e,?_⟩;exact⟨.bc,_,I.Z1 (its':=[]) (ys:=[]) hH e rfl .nil (cc _),rfl,q⟩
def TR:R2:=λx y H Q=>∃l b xs zs,x=.ref l/\y=.ref b/\H l=some (.lst xs)/\H b=some (.lst zs)/\xs.length+zs.length<=sizeLine/\∀p,H p=none->Q (.ref p) (upd H p (.lst (xs++zs)))
theorem Xo:fo X (binaryOp .Add) TR:=by
 intro pins s Z H x y v u Q I rx ry h;obtain⟨l,b,xs,zs,rfl,rfl,hH,hB,hz,q⟩:=h;cases rx;cases ry;obtain⟨z,aX,n,r,hl,e⟩:=I.rm hH;obtain⟨z2,lL,n2,r2,qL,e2⟩:=I.rm hB;refine PySem.P.add_list e e2 ?_ (by rw[aP,aP];omega);have ea:aX.toArray++lL.toArray=(aX++lL).toArray:=by simp
 rw[ea];exact⟨.ref _,_,I.To (t':=s.toks) (r.append r2) (by rw[dh];omega),rfl,q _ I.fresh⟩
section
variable{κ:Type}[DecidableEq κ]
def L5(kvs:List (κ×V))(k:κ):Option V:=(kvs.find? λkv=>decide (kv.1=k)).map (·.2)
def putK(kvs:List (κ×V))(k:κ)(v:V):List (κ×V) :=
 if(kvs.any λkv=>decide (kv.1=k))=true then kvs.map (λkv=>if kv.1=k then(kv.1,v) else kv) else kvs++[(k,v)]
def qi(kvs:List (κ×V))(k:κ):List (κ×V):=kvs.filter λkv=>decide (kv.1≠k)
theorem Bp{p:κ×V}{r:List (κ×V)}{k:κ}(e:p.1=k):L5 (p::r) k=some p.2:=by simp[L5,List.find?_cons,e]
theorem Bo{p:κ×V}{r:List (κ×V)}{k:κ}(e:¬p.1=k):L5 (p::r) k=L5 r k:=by simp[L5,List.find?_cons,e]
theorem JV(k:κ):∀kvs:List (κ×V),(kvs.any λkv=>decide (kv.1=k))=(L5 kvs k).isSome
 |[]=>rfl
 |p::r=>by
  rw[gk];by_cases e:p.1=k
  ·simp only[Bp e,decide_eq_true e,Bool.true_or,Option.isSome_some]
  ·rw[Bo e,aM e,Bool.false_or];exact JV k r
theorem P4(kvs:List (κ×V))(k:κ)(v:V):(putK kvs k v).length<=kvs.length+1:=by
 unfold putK;split
 ·simp
 simp
theorem A4.Q4{u:Option Value}(r:A4 o u):o.isSome=u.isSome:=by
 cases o with
 |none=>cases u with
  |none=>rfl
  |some _=>exact(show False from r).elim
 |some _=>cases u with
  |none=>exact(show False from r).elim
  |some _=>rfl
theorem A4.getD{o:Option V}{u:Option Value}{d:V}{d':Value}(r:A4 o u)(rd:RelV d d'):RelV (o.getD d) (u.getD d'):=by
 cases o with
 |none=>cases u with
  |none=>exact rd
  |some _=>exact(show False from r).elim
 |some _=>cases u with
  |none=>exact(show False from r).elim
  |some _=>exact r
theorem KV.val{kvs:List (κ×V)}{vs:List (κ×Value)}(r:KV kvs vs)(k:κ):A4 (L5 kvs k) (valueAt vs k):=by
 induction r with
 |nil=>exact True.intro
 |@cons p q ps qs h t ih =>
  obtain⟨h1,h2⟩:=h;by_cases e:p.1=k
  ·have e':q.1=k:=h1.symm.trans e;have b:valueAt (q::qs) k=some q.2:=by simp[valueAt,List.find?_cons,e']
   rw[Bp e,b];exact h2
  ·have e':¬q.1=k:=λz=>e (h1.trans z);have b:valueAt (q::qs) k=valueAt qs k:=by simp[valueAt,List.find?_cons,e']
   rw[Bo e,b];exact ih
theorem KV.any{kvs:List (κ×V)}{vs:List (κ×Value)}(r:KV kvs vs)(k:κ):(kvs.any λkv=>decide (kv.1=k))=vs.any λkv=>decide (kv.1=k):=by
 induction r with
 |nil=>rfl
 |cons h t ih=>simp_all
theorem KV.CS{kvs:List (κ×V)}{vs:List (κ×Value)}(r:KV kvs vs)(k:κ)(ry:RelV y u) :
  KV (kvs.map λkv=>if kv.1=k then(kv.1,y) else kv) (vs.map λkv=>if kv.1=k then(kv.1,u) else kv):=by
 induction r with
 |nil=>exact .nil
 |@cons p q ps qs h t ih =>
  rw[bY,bY];refine .cons ?_ ih;obtain⟨h1,h2⟩:=h;by_cases e:p.1=k
  ·rw[aN e,aN (h1.symm.trans e)];exact⟨h1,ry⟩
  ·rw[aG e,aG (λz=>e (h1.trans z))];exact⟨h1,h2⟩
theorem KV.put{kvs:List (κ×V)}{vs:List (κ×Value)}(r:KV kvs vs)(k:κ)(ry:RelV y u):KV (putK kvs k y) (stored vs k u):=by
 unfold putK stored;rw[r.any k];by_cases e:(vs.any λkv=>decide (kv.1=k))=true
 ·rw[aN e,aN e];exact r.CS k ry
 ·rw[aG e,aG e];exact Paired.snoc r ⟨rfl,ry⟩
theorem KV.drop{kvs:List (κ×V)}{vs:List (κ×Value)}(r:KV kvs vs)(k:κ):KV (qi kvs k) (without vs k):=by
 unfold qi without
 induction r with
 |nil=>exact .nil
 |@cons p q ps qs h t ih =>
  obtain⟨h1,h2⟩:=h;rw[dc,dc];by_cases e:p.1=k
  ·have a:¬decide (p.1≠k)=true:=by simp[e]
   have b:¬decide (q.1≠k)=true:=by simp[h1.symm.trans e]
   rw[aG a,aG b];exact ih
  ·have e':¬q.1=k:=λz=>e (h1.trans z);have a:decide (p.1≠k)=true:=by simp[e]
   have b:decide (q.1≠k)=true:=by simp[e']
   rw[aN a,aN b];exact .cons ⟨h1,h2⟩ ih
theorem KV.keys{kvs:List (κ×V)}{vs:List (κ×Value)}(r:KV kvs vs):kvs.map (·.1)=vs.map (·.1):=by
 induction r with
 |nil=>rfl
 |cons h t ih=>simp_all
theorem KV.length{kvs:List (κ×V)}{vs:List (κ×Value)}(r:KV kvs vs):kvs.length=vs.length:=kR r
theorem RC(kvs:List (κ×V))(k:κ):(qi kvs k).length<=kvs.length:=dt _ _
end
theorem X8{k:Key}(r:RelV (kV k) u):(f7 P w).is k u=true:=by
 cases k with
 |inl i=>obtain⟨t,e⟩:=(show ∃t,u=Value.int i t from r);subst e;exact ZE P w i t
 |inr x=>obtain⟨t,e⟩:=(show ∃t,u=Value.str x t from r);subst e;exact ZF P w x t
theorem GN{P:Program}{w:World}:∀{ks:List Key} {us:List Value},Vals (ks.map kV) us->ItemsAre (f7 P w) ks us
 |[],_,r=>by cases r;exact .nil
 |k::ks,_,r=>by
  cases r with
  |cons h t=>exact .cons (X8 h) (GN t)
noncomputable abbrev KT(H:Hp):List (List Key×V)->List (List Key×Addr×Value)->Prop:=Paired λp q=>p.1=q.1/\H q.2.1=some (.tup (p.1.map kV))/\RelV p.2 q.2.2
theorem KT.val{xs:List (List Key×Addr×Value)}(r:KT H kvs xs)(k:List Key):A4 (L5 kvs k) ((atKey xs k).map (·.2)):=by
 induction r with
 |nil=>exact True.intro
 |@cons p q ps qs h t ih =>
  obtain⟨h1,_,h2⟩:=h;by_cases e:p.1=k
  ·have e':q.1=k:=h1.symm.trans e;have b:atKey (q::qs) k=some q.2:=by simp[atKey,List.find?_cons,e']
   rw[Bp e,b];exact h2
  ·have e':¬q.1=k:=λz=>e (h1.trans z);have b:atKey (q::qs) k=atKey qs k:=by simp[atKey,List.find?_cons,e']
   rw[Bo e,b];exact ih
theorem KT.CS{xs:List (List Key×Addr×Value)}(r:KT H kvs xs)(k:List Key)(ry:RelV y u) :
  KT H (kvs.map λkv=>if kv.1=k then(kv.1,y) else kv) (xs.map (putAt k u)):=by
 induction r with
 |nil=>exact .nil
 |@cons p q ps qs h t ih =>
  rw[bY,bY];refine .cons ?_ ih;obtain⟨h1,h2,h3⟩:=h;unfold putAt;by_cases e:p.1=k
  ·rw[aN e,aN (h1.symm.trans e)];exact⟨h1,h2,ry⟩
  ·rw[aG e,aG (λz=>e (h1.trans z))];exact⟨h1,h2,h3⟩
theorem KT.put{xs:List (List Key×Addr×Value)}(r:KT H kvs xs)(k:List Key){b:Addr}(hb:H b=some (.tup (k.map kV)))(ry:RelV y u) :
  KT H (putK kvs k y) (storedH xs k b u):=by
 have e:(kvs.any λkv=>decide (kv.1=k))=(atKey xs k).isSome:=by
  rw[JV,(r.val k).Q4,fY]
 unfold putK storedH;rw[e];by_cases q:(atKey xs k).isSome=true
 ·rw[aN q,aN q];exact r.CS k ry
 ·rw[aG q,aG q];exact Paired.snoc r ⟨rfl,hb,ry⟩
theorem KT.keeps{xs:List (List Key×Addr×Value)}(r:KT H kvs xs)(ht:∀b ys,H b=some (.tup ys)->H' b=some (.tup ys)):KT H' kvs xs :=
 Paired.Gw r λ_ _ z=>⟨z.1,ht _ _ z.2.1,z.2.2⟩
section
variable{h:Heap}
theorem FP{u:HO}(ok:fA P w H h)(e:Rd H a u):j4 P w H h a u:=e.ok ok
theorem rL{kvs:List (Key×V)}(ok:fA P w H h)(e:Rd H a (.dK kvs)):kvs.length<=sizeLine/\(a==sysModules)=false/\∃vs,KV kvs vs/\h.DictOf (f7 P w) a vs :=
 show j4 P w H h a (.dK kvs) from FP ok e
theorem rK{kvs:List (Key×V)}(ok:fA P w H h)(e:H a=some (.dK kvs)):kvs.length<=sizeLine/\(a==sysModules)=false/\∃vs,KV kvs vs/\h.DictOf (f7 P w) a vs:=rL ok (.inl e)
theorem uU{ks:List Key}(ok:fA P w H h)(e:H a=some (.tup (ks.map kV))):(tupleKind (f7 P w)).is h ks a:=by
 obtain⟨_,aX,r,o,h1,h2,⟨n,h3⟩,_⟩:=(show j4 P w H h a (.tup (ks.map kV)) from ok a _ e)
 exact⟨o,aX.toArray,n,h1,h2,h3,by simpa using GN r⟩
theorem uE(ok:fA P w H h)(e:Rd H a (.dT kvs)):kvs.length<=sizeLine/\(a==sysModules)=false /\
  ∃xs,KT H kvs xs/\h.DictOfH (tupleKind (f7 P w)) a xs:=by
 obtain⟨z,y,xs,r,o,es,ep,h1,h2,h3,h4,h5⟩:=(show j4 P w H h a (.dT kvs) from FP ok e)
 refine⟨z,y,xs,r,o,es,ep,h1,h2,h3,h4,λx hx=>?_,h5⟩;have all:∀{l:List (List Key×V)} {m:List (List Key×Addr×Value)},KT H l m->∀x∈m,(tupleKind (f7 P w)).is h x.1 x.2.1:=by
  intro l m q
  induction q with
  |nil=>simp
  |@cons p q ps qs hq t ih =>
   intro x hx;rcases aC.mp hx with e|hx
   ·exact uU ok (by simp_all)
   ·exact ih x hx
 exact all r x hx
theorem Va(ok:fA P w H h)(e:H a=some (.dT kvs)):kvs.length<=sizeLine/\(a==sysModules)=false /\
  ∃xs,KT H kvs xs/\h.DictOfH (tupleKind (f7 P w)) a xs:=uE ok (.inl e)
end
def Z6(H:Hp)(a:Addr)(y:V)(r:Option V):Prop :=
 (∃kvs k,Rd H a (.dK kvs)/\y=kV k/\r=L5 kvs k)\/∃kvs k b,Rd H a (.dT kvs)/\y=.ref b/\H b=some (.tup (k.map kV))/\r=L5 kvs k
def xt(H:Hp)(a:Addr)(y v:V)(H':Hp):Prop :=
 (∃kvs k,H a=some (.dK kvs)/\y=kV k/\kvs.length<sizeLine/\H'=upd H a (.dK (putK kvs k v))) \/
 ∃kvs k b,H a=some (.dT kvs)/\y=.ref b/\H b=some (.tup (k.map kV))/\kvs.length<sizeLine/\H'=upd H a (.dT (putK kvs k v))
theorem Z6.k{H:Hp}{a:Addr}{kvs:List (Key×V)}{k:Key}(e:H a=some (.dK kvs)):Z6 H a (kV k) (L5 kvs k):=.inl ⟨kvs,k,.inl e,rfl,rfl⟩
theorem xt.k{H:Hp}{a:Addr}{kvs:List (Key×V)}{k:Key}{v:V}(e:H a=some (.dK kvs))(hl:kvs.length<sizeLine):xt H a (kV k) v (upd H a (.dK (putK kvs k v))):=.inl ⟨kvs,k,e,rfl,hl,rfl⟩
section
variable{v:V}{r:Value}
theorem Inv.big(I:Inv X pins Z H s):sysModules<s.heap.objs.size:=by
 have h:mainGlobals<s.heap.objs.size:=(I.mod.glob.keeps I.bk).lt;exact cH ∅ h
theorem a51{Q:Value->Shared->Prop}(hu:A.units+1<cLine)(I:Inv X pins Z H s)(g:Z6 H a y (some v))(ry:RelV y u)(h:∀w' s',Inv X pins Z H s'->RelV v w'->Q w' s') :
  wpAny (model X.prog X.w) A (getItem (.ref a) u) Q E s:=by
 rcases g with⟨kvs,k,e,ey,l⟩|⟨kvs,k,b,e,ey,eb,l⟩
 ·subst ey;obtain⟨z,hd,vs,rel,dd⟩:=rL I.bz e;obtain⟨w',hw,eW⟩:=A4.some_of (v:=v) (o:=valueAt vs k) (by rw[l];exact rel.val k);exact wpAny_getItem_of (X8 ry) dd.mapOf hw (h w' _ (I.tok _) eW)
 ·subst ey;cases (show u=Value.ref b from ry);obtain⟨z,hd,xs,rel,dd⟩:=uE I.bz e;obtain⟨w',hw,eW⟩:=A4.some_of (v:=v) (o:=(atKey xs k).map (·.2)) (by rw[l];exact rel.val k);obtain⟨p,hp,kE⟩:=aa.mp hw;refine wpAny_getItem_heap (gC hu) (uU I.bz eb) dd hp ?_;rw[kE];exact h w' _ (I.tok _) eW
theorem Ta{Q:Value->Shared->Prop}(hu:A.units+1<cLine)(I:Inv X pins Z H s)(g:Z6 H a y o)(ry:RelV y u)(h:∀s',Inv X pins Z H s'->Q (.bool o.isSome) s') :
  wpAny (model X.prog X.w) A (compareOp .In u (.ref a)) Q E s:=by
 rcases g with⟨kvs,k,e,ey,l⟩|⟨kvs,k,b,e,ey,eb,l⟩
 ·subst ey;obtain⟨z,hd,vs,rel,dd⟩:=rL I.bz e;refine wpAny_in_of (X8 ry) hd dd.mapOf ?_;rw[<- (rel.val k).Q4,<- l];exact h _ (I.tok _)
 ·subst ey;cases (show u=Value.ref b from ry);obtain⟨z,hd,xs,rel,dd⟩:=uE I.bz e;refine wpAny_in_heap (gC hu) (uU I.bz eb) hd dd ?_;have q:=(rel.val k).Q4;rw[fY] at q;rw[<- q,<- l];exact h _ (I.tok _)
theorem Ph{Q:Value->Shared->Prop}(hu:A.units+1<cLine)(I:Inv X pins Z H s)(g:Z6 H a y o)(ry:RelV y u)(h:∀s',Inv X pins Z H s'->Q (.bool (!o.isSome)) s') :
  wpAny (model X.prog X.w) A (compareOp .NotIn u (.ref a)) Q E s:=by
 rcases g with⟨kvs,k,e,ey,l⟩|⟨kvs,k,b,e,ey,eb,l⟩
 ·subst ey;obtain⟨z,hd,vs,rel,dd⟩:=rL I.bz e;refine wpAny_notIn_of (X8 ry) hd dd.mapOf ?_;rw[<- (rel.val k).Q4,<- l];exact h _ (I.tok _)
 ·subst ey;cases (show u=Value.ref b from ry);obtain⟨z,hd,xs,rel,dd⟩:=uE I.bz e;refine wpAny_notIn_heap (gC hu) (uU I.bz eb) hd dd ?_;have q:=(rel.val k).Q4;rw[fY] at q;rw[<- q,<- l];exact h _ (I.tok _)
theorem O6{h':Heap}{t':Nat}{ob:HO}(I:Inv X pins Z H s)(mu:vz (H a))(hs:Heap.SameBut a s.heap h')(he:∃q,h'.get? a=some q)(new:j4 X.prog X.w (upd H a ob) h' a ob) :
  Inv X pins Z (upd H a ob) { s with heap:=h',toks:=t' } :=
 I.write (x:=a) (e:=a) mu (.inl rfl) (λb q hb z=>(hs.2 b hb).trans z) he new
theorem uS{h':Heap}{kvs:List (Key×V)}{vs:List (Key×Value)}(z:kvs.length<=sizeLine)(hd:(a==sysModules)=false)(rel:KV kvs vs)(dd:h'.DictOf (f7 P w) a vs) :
  j4 P w H' h' a (.dK kvs):=⟨z,hd,vs,rel,dd⟩
theorem a50{Q:Unit->Shared->Prop}(hu:A.units+1<cLine)(I:Inv X pins Z H s)(g:xt H a y v H')(ry:RelV y u)(rv:RelV v r)(h:∀s',Inv X pins Z H' s'->Q Unit.unit s') :
  wpAny (model X.prog X.w) A (setItem (.ref a) u r) Q E s:=by
 rcases g with⟨kvs,k,e,ey,l,eH⟩|⟨kvs,k,b,e,ey,eb,l,eH⟩
 ·subst ey eH;obtain⟨z,hd,vs,rel,dd⟩:=rK I.bz e;have hz:vs.length<=sizeLine:=by rw[<- rel.length];exact z
  have hl:(putK kvs k v).length<=sizeLine:=by have:=P4 kvs k v;omega
  refine wpAny_setItem_pairs (hsz:=hz) (X8 ry) dd λh' mQ hs=>h _ ?_;have he:∃q,h'.get? a=some q:=let ⟨q,_,_,hq,_⟩:=mQ;⟨q,hq⟩
  exact O6 I (by rw[e];exact True.intro) hs he (uS hl hd (rel.put k rv) mQ)
 ·subst ey eH;cases (show u=Value.ref b from ry);obtain⟨z,hd,xs,rel,dd⟩:=Va I.bz e;have hz:xs.length<=sizeLine:=by rw[<- kR rel];exact z
  have hl:(putK kvs k v).length<=sizeLine:=by have:=P4 kvs k v;omega
  refine wpAny_setItem_heap (hsz:=hz) (gC hu) (uU I.bz eb) dd λh' mQ hs=>h _ ?_;obtain⟨q,es,ep,hq,h2,h3,h4,_,h5⟩:=mQ;refine O6 I (by rw[e];exact True.intro) hs ⟨q,hq⟩ ⟨hl,hd,_,(rel.put k eb rv).keeps λc ys ec=>?_,q,es,ep,hq,h2,h3,h4,h5⟩;rw[b9 (VB ec e (λz=>nomatch z))];exact ec
end
section
variable{kvs:List (Key×V)}{k:Key}
theorem UW{v:V}{more:List Value}{Q:Value->Shared->Prop}(I:Inv X pins Z H s)(e:H a=some (.dK kvs))(ry:RelV (kV k) u)(l:L5 kvs k=some v)(hm:more=[]\/∃x,more=[x])(h:∀w' s',Inv X pins Z (upd H a (.dK (qi kvs k))) s'->RelV v w'->Q w' s'):wpAny (model X.prog X.w) A (call (.builtin "dict.pop") (.ref a::u::more)) Q E s:=by
 obtain⟨z,hd,vs,rel,dd⟩:=rK I.bz e;obtain⟨w',hw,eW⟩:=A4.some_of (v:=v) (o:=valueAt vs k) (by rw[<- l];exact rel.val k);have hp:(keyPart u).isSome=true:=by
  cases k with
  |inl i=>obtain⟨t,q⟩:=(show ∃t,u=Value.int i t from ry);subst q;rfl
  |inr x=>obtain⟨t,q⟩:=(show ∃t,u=Value.str x t from ry);subst q;rfl
 have ha:argsOk "dict.pop" ⟨.ref a::u::more,[]⟩:=by
  rcases hm with q|⟨x,q⟩
  ·subst q;exact PySem.F.args_dict_pop_2 _ _
  ·subst q;exact PySem.F.args_dict_pop_3 _ _ _
 refine call_meetsIn vH dd.typeIs PySem.F.entry_dict_pop ha (meets_dict_pop_there (f7 X.prog X.w) a (X8 ry) more hm hp)
  ⟨vs,w',dd,by rw[<- rel.length];exact z,hw,λh' mQ hs=>h w' _ ?_ eW⟩
 have he:∃q,h'.get? a=some q:=let ⟨q,_,_,hq,_⟩:=mQ;⟨q,hq⟩
 exact O6 I (by rw[e];exact True.intro) hs he (uS (aA (RC kvs k) z) hd (rel.drop k) mQ)
theorem UU{Q:Value->Shared->Prop}(I:Inv X pins Z H s)(e:Rd H a (.dK kvs))(h:∀t s',Inv X pins Z H s'->Q (.int kvs.length t) s'):wpAny (model X.prog X.w) A (call (.builtin "len") [.ref a]) Q E s:=by
 obtain⟨z,hd,vs,rel,dd⟩:=rL I.bz e;refine call_len_dict hd dd (by rw[<- rel.length];rw[jF] at z;omega) ?_;rw[<- rel.length];exact h _ _ (I.tok _)
end
theorem Zs(I:Inv X pins Z H s)(g:Z6 H a y o):s.TypeIs (.ref a) "dict":=by
 rcases g with⟨kvs,k,e,_,_⟩|⟨kvs,k,b,e,_,_,_⟩
 ·obtain⟨_,_,vs,_,dd⟩:=rL I.bz e;exact dd.typeIs
 ·obtain⟨_,_,xs,_,dd⟩:=uE I.bz e;exact dd.typeIs
theorem Jy(h:Heap)(hb:sysModules<h.objs.size):j4 P w H (h.push { cls:=.type "dict",data:=.dict #[] }) h.objs.size (.dK []) :=
 ⟨cc _,dM.mpr (bf (aJ hb)),[],.nil,Heap.DictOf.new h⟩
def OF:TE:=λ_ H Q=>∀p,H p=none->Q (.ref p) (upd H p (.dK []))
theorem Sl:PE X (.Dict [] [] pos) OF:=λpins s Z H Q I h =>
 wpAny_Dict_empty ⟨.ref s.heap.objs.size,_,I.laid (a:=s.heap.objs.size) (o:=.dK []) (t':=s.toks) (λ_ _ q=>ai _ q) (au _) (Jy s.heap I.big),rfl,h _ (I.bz.fresh (au _))⟩
def wR:List (TE×TE)->St->Hp->(List (V×V)->Hp->Prop)->Prop
 |[],_,H,Q=>Q [] H
 |(tk,tv)::r,Z,H,Q=>tk Z H λx H1=>tv Z H1 λy H2=>wR r Z H2 λps H3=>Q ((x,y)::ps) H3
noncomputable abbrev VV:List (V×V)->List (Value×Value)->Prop:=Paired λp q=>RelV p.1 q.1/\RelV p.2 q.2
def vw(X:Cx)(pos:Pos)(keys:List (Option Expr))(values:List Expr)(gL:List (TE×TE)):Prop :=
 ∀(pins:List (Addr×Obj)) (s:Shared) (Z:St) (H:Hp) (Q:List (V×V)->Hp->Prop),Inv X pins Z H s->wR gL Z H Q ->
  wpAny (model X.prog X.w) X.A (evalPairs (pairTrees keys values X.env pos)) (λvs s'=>∃ps H',Inv X pins Z H' s'/\VV ps vs/\Q ps H') X.xe s
theorem Qs:vw X pos [] [] []:=λpins s Z H Q I h=>pairTrees_nil_walk ⟨[],H,I,.nil,h⟩
theorem Sx{k v:Expr}{ks:List (Option Expr)}{vs:List Expr}{tk tv:TE}{gL:List (TE×TE)}(hk:PE X k tk)(hv:PE X v tv)(hr:vw X pos ks vs gL) :
  vw X pos (some k::ks) (v::vs) ((tk,tv)::gL):=λpins s Z H Q I h =>
 pairTrees_cons_walk (cq (hk pins s Z H _ I h) λu s1 ⟨x,H1,I1,rx,q1⟩=>cq (hv pins s1 Z H1 _ I1 q1) λw2 s2 ⟨y,H2,I2,ry,q2⟩ =>
  cq (hr pins s2 Z H2 _ I2 q2) λws s3 ⟨ps,H3,I3,rel,q3⟩=>⟨(x,y) :: ps,H3,I3,.cons ⟨rx,ry⟩ rel,q3⟩)
def U0(kvs more:List (Key×V)):List (Key×V):=more.foldl (λacc kv=>putK acc kv.1 kv.2) kvs
theorem KV.merge:∀{more:List (Key×V)} {rs:List (Key×Value)} {kvs:List (Key×V)} {vs:List (Key×Value)},KV more rs->KV kvs vs->KV (U0 kvs more) (merged vs rs):=by
 intro more rs kvs vs r
 induction r generalizing kvs vs with
 |nil=>intro q;exact q
 |@cons p q ps qs h t ih =>
  intro r0;have e:KV (putK kvs p.1 p.2) (stored vs q.1 q.2):=by
   have:=r0.put p.1 h.2;rw[<- h.1];exact this
  exact ih e
theorem HZ:∀(more kvs:List (Key×V)),(U0 kvs more).length<=kvs.length+more.length
 |[],kvs=>by show kvs.length<=kvs.length+0;omega
 |p::r,kvs=>by
  have h1:=HZ r (putK kvs p.1 p.2);have h2:=P4 kvs p.1 p.2;show(U0 (putK kvs p.1 p.2) r).length<=_
  grind
theorem He{P:Program}{w:World}:∀{kvs:List (Key×V)} {ws:List (Value×Value)},VV (kvs.map λkv=>(kV kv.1,kv.2)) ws->∃rs,Carries (f7 P w) ws rs/\KV kvs rs
 |[],_,r=>by cases r;exact⟨[],True.intro,.nil⟩
 |p::kvs,_,r=>by
  cases r with
  |@cons a b as bs h t =>
   obtain⟨rs,c,q⟩:=He (P:=P) (w:=w) t;obtain⟨b1,b2⟩:=b;exact⟨(p.1,b2)::rs,⟨X8 h.1,rfl,c⟩,.cons ⟨rfl,h.2⟩ q⟩
def Wh(gL:List (TE×TE)):TE:=λZ H Q=>∀p,H p=none->wR gL Z (upd H p (.dK [])) λps H2=>H2 p=some (.dK [])/\∃kvs:List (Key×V),ps=kvs.map (λkv=>(kV kv.1,kv.2))/\kvs.length<=15/\Q (.ref p) (upd H2 p (.dK (U0 [] kvs)))
theorem Qm{keys:List (Option Expr)}{values:List Expr}{gL:List (TE×TE)}(h:vw X pos keys values gL)(pL:keys.all (·.isSome)=true)(hl:keys.length=values.length)(h0:keys≠[])(oA:keys.length<=15):PE X (.Dict keys values pos) (Wh gL):=by
 intro pins s Z H Q I q;have hn:=I.bz.fresh (au s.heap.objs.size);have I1:=I.laid (a:=s.heap.objs.size) (o:=.dK []) (h':=s.heap.push { cls:=.type "dict",data:=.dict #[] }) (t':=s.toks) (λ_ _ q=>ai _ q) (au _) (Jy s.heap I.big);refine wpAny_Dict_walk (knd:=f7 X.prog X.w) pL hl h0 oA (cq (h pins _ Z _ _ I1 (q _ hn)) λws s2 aZ=>?_);obtain⟨ps,H2,I2,rel,e,kvs,ep,lk,q2⟩:=aZ;subst ep;obtain⟨rs,c,rk⟩:=He (P:=X.prog) (w:=X.w) rel;obtain⟨z,hd,vs0,r0,dd⟩:=rK I2.bz e;cases r0;refine⟨rs,c,dd,λh' mQ hs=>⟨.ref s.heap.objs.size,_,?_,rfl,q2⟩⟩;have hz:(U0 [] kvs).length<=sizeLine:=by
  have h1:=HZ kvs [];rw[List.length_nil] at h1;rw[jF];omega
 have he:∃q,h'.get? s.heap.objs.size=some q:=let ⟨q,_,_,hq,_⟩:=mQ;⟨q,hq⟩
 exact O6 I2 (by rw[e];exact True.intro) hs he (uS hz hd (rk.merge .nil) mQ)
end L2
namespace Kz
open PySem PySem.W PySem.Calls PyProof.Rows
theorem Ym{P:Params}{h:Heap}:∀(ns:List Int) (vs:List Value),WellAll P h vs (ns.map WData.int)->IntsAre vs ns:=by
 intro ns
 induction ns with
 |nil =>
  intro vs w;cases w;exact .nil
 |cons n ns ih =>
  intro vs w;cases w with
  |cons a b =>
   cases a;exact .cons _ _ (ih _ b)
theorem Yq{l:OpenLaw}{n:Nat}(hn:l.most=some n){P:Params}{h:Heap}{args:List WData}{vals:List Value}(nC:l.row.toRowW.claim.pre args=true)(yM:WellAll P h vals args) :
  ∃a vs ns,vals=[Value.ref a]/\args=[WData.list (ns.map WData.int)]/\h.get? a=some { cls:=.type "list",data:=.seq vs.toArray }/\IntsAre vs ns/\ns.length<=n:=by
 have LW:WShape.hasAll [] args [.list .int]=true:=(pre_splitW nC).1;have hc:l.pre.holds [] { args:=args }=true:=(pre_splitW nC).2;obtain⟨d,r,rfl,h1,h2⟩:=hasAllW_cons LW;obtain rfl:=hasAllW_nil h2;obtain⟨xs,rfl,h3⟩:=hasW_list h1;obtain⟨ns,rfl⟩:=items_int h3;have hlen:ns.length<=n:=by
  have h4:(WTm.not (.lt (.lit (.int (n:Int))) (.len (.arg 0)))).holds [] { args:=[.list (ns.map .int)] }=true:=by
   have h4:=(holds_andW hc).1;rw[hn] at h4;exact h4
  have h5:=condW_of h4 (w_not (w_lt w_lit (w_len_list (w_arg rfl))))
  simp_all
 cases yM with
 |cons w1 w2 =>
  cases w2;cases w1 with
  |list ho pL=>exact⟨_,_,ns,rfl,rfl,ho,Ym ns _ pL,hlen⟩
theorem a05(l:OpenLaw)(args:List WData):l.row.toRowW.claim.post args (.bool true) args=true :=
 postW_of (r:=l.row.toRowW) (X:=(true==true))
  (show WShape.has [] (.bool true) .bool=true by rfl)
  (show(WTm.eq .res (.lit (.bool true))).value [] { args:=args,res:=some (.bool true),after:=args }=some (.bool (true==true)) from w_eq_bool (w_res rfl) w_lit) rfl
theorem Zo{l:OpenLaw}{n:Nat}{q:Program}{loose:List Str}{XP:(Str->Option Value)->Heap->Prop}{YP:World->Heap->Prop}{d:DefRec}(hn:l.most=some n)(tU:d.params.defaults=[])(call:∀ (w:World) (cV bp:Shared) (mg mb:Str->Option Value) (fa:Addr) (o:Obj) (pm cd doc:Value) (a:Addr) (vs:List Value) (ns:List Int),
   Ground q loose [] XP w cV mg mb bp.heap->YP w bp.heap ->
   bp.heap.get? fa=some o->o.data=.func (docDef d.name d.params d.body d.scope pm cd doc)->bp.heap.CodeRec cd d.name->mg d.name=some (.ref fa) ->
   bp.heap.get? a=some { cls:=.type "list",data:=.seq vs.toArray }->IntsAre vs ns->ns.length<=n->bp.gens=#[] ->
   codeAny (model l.prog w) callerA (.call (.ref fa) ⟨[.ref a],[]⟩) (λr s'=>r=.ok (.ret (.bool true))/\OldK bp.heap s'.heap/\s'.os=bp.os/\AllBare s'.gens) bp) :
  WalkO q loose XP YP l.row.toRowW d [] (λf vs=>PySem.call f vs):=by
 intro w cV bp mg mb G Y fa o pm cd doc dV kV ho hd kH hD hmg hg args vals as nC Mr hrd yM hlo;obtain rfl:dV=.none:=Dflts.none hD tU;obtain rfl:kV=.none:=Dflts.noKw hD;obtain⟨a,vs,ns,rfl,rfl,jR,hints,hlen⟩:=Yq hn nC yM;refine enter_call (gh (call w cV bp mg mb fa o pm cd doc a vs ns G Y ho (fd_plain hd) kH hmg jR hints hlen hg) λr s' hq=>?_);obtain⟨rfl,h2,h3,h4⟩:=hq;exact⟨.inl ⟨.bool true,.bool true,[],rfl,λ_=>rfl,.bool true,a05 l _,λ_=>⟨List.Pairwise.nil,λ_ hm=>(nomatch hm)⟩⟩,h2,h3,h4⟩
end Kz
namespace L2
open PySem PySem.Spec PyProof.Rows
variable{w:World}{x qual:Str}{X:Cx}{A:Around}{s:Shared}{elt iter tg:Expr}{ifs:List Expr}{scope:Scope}{pos:Pos}{cl:List (Str×Addr)}{C:Addr}{N':List Str}{c7:List Nat}{fp:List Addr}{g:TG}{tc:TT}{te:TE}
theorem Ha:∀{vs:List Value} {ns:List Int},IntsAre vs ns->Vals (ns.map V.int) vs
 |_,_,.nil=>.nil
 |_,_,.cons n t h=>.cons ⟨t,rfl⟩ (Ha h)
def xu(H:Hp):Prop:=∀b,H b=none\/∃o xs,H b=some (.jb o (.lst xs))
theorem RV{P:Program}{K:PySem.W.Frag}{mg mb:Str->Option Value}{CX:mn}{k:Nat}{fa a:Addr}{fd:FuncData}{sp:Sp}{bp:Shared}{vs:List Value}{ns:List Int}(KX:K.In bp.heap)(wk:bp.heap.Ns mainGlobals mg)(hb:bp.heap.Ns builtinsNs mb)(zi:∀x:Str,x≠"__name__"->mb x=bootBuiltins x)(yZ:bp.heap.NoLimit)(hg:bp.gens=#[])(ha:bp.heap.get? a=some { cls:=.type "list",data:=.seq vs.toArray })(hi:IntsAre vs ns)(hl:ns.length<=sizeLine)(hr:m9 k callerA)(F:∀base:Heap,K.In base->base.Ns mainGlobals mg->fX P w K mg base CX k fa fd [x] sp)(tX:∀(s:Shared) (u:Value),BindsTo s fd ⟨[u],[]⟩ [(x,u)])(qH:∀H:Hp,xu H->eQ K H a (ns.map V.int)->sp [.ref a] H (λv _=>v=.bl true) λ_ _ _=>False)(zB:∀H e s',CX [] H bp (λ_ _ _=>False) e s'->False) :
  codeAny (model P w) callerA (.call (.ref fa) ⟨[.ref a],[]⟩) (λr s'=>r=.ok (.ret (.bool true))/\OldK bp.heap s'.heap/\s'.os=bp.os/\AllBare s'.gens) bp:=by
 have rv:=Ha hi;have Lz:=hi.length;have core:∀H:Hp,xu H->eQ K H a (ns.map V.int)->fA P w H bp.heap->(∀b,H b≠none->b=a)->(H a≠none->K.lookup a=none) ->
   codeAny (model P w) callerA (.call (.ref fa) ⟨[.ref a],[]⟩) (λr s'=>r=.ok (.ret (.bool true))/\OldK bp.heap s'.heap/\s'.os=bp.os/\AllBare s'.gens) bp:=by
  intro H hO hS bz hA hK;have E1:∀{b:Addr} {o:Obj},bp.heap.get? b=some o->H b=none->(nS bp.heap H).get? b=some o:=λe n=>RK e n;have sR:∀{b:Addr} {o:Obj} {es:Array DictEntry} {ep:Nat},bp.heap.get? b=some o->o.data=.dict es ep->H b=none:=λ{b o es ep} e d=>by
   grind
  have vV:∀{b:Addr} {m:Str->Option Value},bp.heap.Ns b m->(nS bp.heap H).Ns b m:=λ{b m} ⟨o,es,ep,e,d,r⟩=>⟨o,es,ep,E1 e (sR e d),d,r⟩
  have Ey:K.In (nS bp.heap H):=λb o e=>E1 (KX b o e) (by
   grind)
  have hM:Mod K mg (nS bp.heap H):=⟨Ey,vV wk,⟨mb,vV hb,zi⟩,let ⟨mc,h1,h2⟩:=yZ;⟨mc,vV h1,h2⟩⟩
  have e0:pY P w K mg (nS bp.heap H) callerA [] bp H:=⟨rfl,hM,λb o e=>PY e,Nat.le_of_eq (a40 _ _),trivial,λb hb=>absurd (show b∈([]:List Addr) from hb) (by simp),bz,.of_eq hg⟩
  refine gh ((F _ Ey (vV wk)).run callerA [] bp H ⟨[.ref a],[]⟩ [.ref a] [.ref a] _ _ hr e0 (tX bp (.ref a)) (.cons rfl .nil) (qH H hO hS)) λr s' h=>?_;cases r with
  |error e=>exact(zB H e s' h).elim
  |ok fl =>
   cases fl with
   |next=>exact False.elim h
   |brk=>exact False.elim h
   |cont=>exact False.elim h
   |ret u =>
    obtain⟨v,H',os,bare,un,yT,r',q⟩:=h;have q':v=.bl true:=q;subst q';obtain rfl:u=Value.bool true:=r';refine⟨rfl,OldK.of_keep λb o e=>?_,os,bare⟩;cases q:H b with
    |none=>exact un.keep b o e q (by intro z;exact absurd (show b∈([]:List Addr) from z) (by simp)) (by simp)
    |some u =>
     rcases hO b with z|⟨ob,xs,z⟩
     ·simp_all
     ·have z2:=un.gH b ob _ z;obtain⟨e1,_⟩:=bz b _ z;obtain⟨e2,_⟩:=yT b _ z2
      simp_all
 cases hk:K.lookup a with
 |some o =>
  have e:=KX a o hk;rw[ha] at e;cases e;refine core (λ_=>none) (λ_=>.inl rfl) (.inr ⟨_,vs.toArray,_,hk,rfl,rfl,rfl,by simp_all,by simpa using rv⟩) (λb u z=>by simp_all) (λb z=>absurd rfl z) λz=>absurd rfl z
 |none =>
  refine core (λb=>if b=a then some (.jb { cls:=.type "list",data:=.seq vs.toArray } (.lst (ns.map V.int))) else none) (λb=>?_) (.inl (.inr ⟨{ cls:=.type "list",data:=.seq vs.toArray },aN rfl⟩)) (λb u z=>?_) (λb z=>?_) λ_=>hk
  ·by_cases hb:b=a
   ·exact .inr ⟨_,_,aN hb⟩
   ·exact .inl (aG hb)
  ·by_cases hb:b=a
   ·have z':=(aN hb).symm.trans z;cases z';subst hb;exact⟨ha,by rw[av];exact hl,vs,_,rv,ha⟩
   simp_all
  ·by_cases hb:b=a
   ·exact hb
   ·exact absurd (aG hb) z
theorem Rj{l:PySem.W.OpenLaw}{n k:Nat}{q:Program}{loose:List Str}{XP:(Str->Option Value)->Heap->Prop}{YP:World->Heap->Prop}{d:DefRec}{K:Params->PySem.W.Frag}{CX:World->mn}{sp:World->Sp}(hn:l.most=some n)(nD:n<=sizeLine)(tU:d.params.defaults=[])(hr:m9 k callerA)(hY:∀(w:World) (h:Heap),YP w h->(K w.params).In h)(F:∀ (w:World) (mg:Str->Option Value) (fa:Addr) (h:Heap),(K w.params).In h->h.Ns mainGlobals mg->mg d.name=some (.ref fa) ->
   ∃fd:FuncData,(∀(s:Shared) (u:Value),BindsTo s fd ⟨[u],[]⟩ [(x,u)]) /\
    ∀ base:Heap,(K w.params).In base->base.Ns mainGlobals mg->fX l.prog w (K w.params) mg base (CX w) k fa fd [x] (sp w))(qH:∀(w:World) (H:Hp) (a:Addr) (ns:List Int),ns.length<=n->xu H->eQ (K w.params) H a (ns.map V.int)->sp w [.ref a] H (λv _=>v=.bl true) λ_ _ _=>False)(zB:∀(w:World) (H:Hp) (s:Shared) (e:Value) (s':Shared),CX w [] H s (λ_ _ _=>False) e s'->False) :
  PySem.W.WalkO q loose XP YP l.row.toRowW d [] (λf vs=>PySem.call f vs):=by
 refine Kz.Zo hn tU λw cV bp mg mb fa o pm cd doc a vs ns G Y ho hd kH hmg jR hints hlen hg=>?_;have KX:=hY w _ Y;obtain⟨fd,hb,hF⟩:=F w mg fa _ KX G.T.g hmg;exact RV KX G.T.g G.T.b G.T.builtins G.T.nolimit hg jR hints (aA hlen nD) hr hF hb (λH hO hS=>qH w H a ns hlen hO hS) λH e s'=>zB w H bp e s'
def y9(s:Stmt):Arguments:=match s with
 |.FunctionDef _ a _ _ _ _ _ _ _ _=>a
 |_=>{ posonlyargs:=[],args:=[],vararg:=none,kwonlyargs:=[],kw_defaults:=[],kwarg:=none,defaults:=[] }
def l3(s:Stmt):List Stmt:=match s with
 |.FunctionDef _ _ b _ _ _ _ _ _ _=>b
 |_=>[]
def j9(s:Stmt):Scope:=match s with
 |.FunctionDef _ _ _ _ _ _ sc _ _ _=>sc
 |_=>{ kind:=.function,names:=[],isGenerator:=false,isCoroutine:=false }
structure oU(K:PySem.W.Frag)(x qual:Str)(st:Stmt)(f:Addr)(fd:FuncData):Prop where
 ex:∃(oc:Value) (od:Option Addr) (kV doc pm:Value) (an:Option Addr) (fg ct:Value) (kX:Array (Option Value)),
  fd=PySem.W.fnOf x qual (y9 st) (l3 st) (j9 st) .none kV doc pm an fg ct/\K.lookup f=some ⟨oc,od,.func fd,kX⟩/\PySem.W.codeIn K fg qual=true
 kp:PySem.W.keepIn K (.ref f)=true
section
variable{K:PySem.W.Frag}
theorem oU.binds{st:Stmt}{f:Addr}{fd:FuncData}{ps:List Str}(F:oU K x qual st f fd)(h:∀(kV doc pm:Value) (an:Option Addr) (fg ct:Value) (us:List Value),us.length=ps.length->bindArgs (PySem.W.fnOf x qual (y9 st) (l3 st) (j9 st) .none kV doc pm an fg ct) ⟨us,[]⟩=pure (ps.zip us)):Binds K fd ps []:=by
 obtain⟨oc,od,kV,doc,pm,an,fg,ct,kX,rfl,lk,kH⟩:=F.ex;exact .all (h kV doc pm an fg ct)
theorem Ki{st:Stmt}{f:Addr}{oc:Value}{od an:Option Addr}{kX:Array (Option Value)}{kV doc pm fg ct:Value}(l:K.lookup f=some ⟨oc,od,.func (PySem.W.fnOf x qual (y9 st) (l3 st) (j9 st) .none kV doc pm an fg ct),kX⟩)(c:PySem.W.codeIn K fg qual=true)(k:PySem.W.keepIn K (.ref f)=true):oU K x qual st f (PySem.W.fnOf x qual (y9 st) (l3 st) (j9 st) .none kV doc pm an fg ct):=⟨⟨oc,od,kV,doc,pm,an,fg,ct,kX,rfl,l,c⟩,k⟩
end
theorem a56:j8 X (.builtin "len") (λxs H Q=>∃a kvs,xs=[V.ref a]/\H a=some (.dK kvs)/\Q (.int kvs.length) H):=by
 intro pins s Z H xs us Q I r h;obtain⟨a,kvs,rfl,ha,q⟩:=h;obtain⟨u,rfl,ru⟩:=vals1 r;cases ru;exact UU I (.inl ha) λt s' I'=>⟨.int kvs.length,H,I',⟨t,rfl⟩,q⟩
section
variable{prog:Program}{R:Result->Shared->Prop}
theorem ZS{target:Expr}{it acc:Value}{env:Env}(I:Nat->Shared->Prop)(turn:∀ n s,I n s->wpAny (model prog w) A (pyNext it) (λr bp=>match r with
   |none=>R (.ok .next) bp
   | some v=>wpAny (model prog w) A (letOwnedTupleGo target it v) (λ_ bp=>wpAny (model prog w) A (assign target env v) (λ_ ee =>
     wpAny (model prog w) A (forIn ifs true λc r=>if r=true then do let ok <- isTrue c env (eval c env);pure (ForInStep.yield ok) else pure (ForInStep.yield r)) (λok du =>
      if ok=true then wpAny (model prog w) A (eval elt env) (λx eY =>
       wpAny (model prog w) A (call (.builtin "list.append") [acc,x]) (λ_ fQ=>∃ m,m < n/\I m fQ) (λ_ _=>False) eY) (notedBy (model prog w) A env λe s'=>R (.error e) s') du
      else ∃ m,m < n/\I m du) (λ_ _=>False) ee) (λ_ _=>False) bp) (λ_ _=>False) bp) (λ_ _=>False) s)(n:Nat)(h:I n s) :
  codeAny (model prog w) A (.compLoop (.ListComp elt [⟨target,iter,ifs,0⟩] scope pos) 0 it acc env) R s:=by
 refine codeAny_loop rfl I (λn s hI=>?_) n h;show wpAny _ A ((compTurn (.ListComp elt [⟨target,iter,ifs,0⟩] scope pos) 0 it acc env).onRaise (λx=>do noteFrame x env;theTreesLotGoes x)) _ _ s;refine wpAny_noted ?_;rw[compTurn_list];refine ae (cP (ae (aU (turn n s hI) (λr bp cC=>?_) λ_ _ h'=>h'.elim)));cases r with
 |none=>exact aj cC
 |some v =>
  refine ae (aU cC (λ_ bp cC=>?_) λ_ _ h'=>h'.elim);refine ae (aU cC (λ_ ee fG=>ae (aU fG (λok du jt=>?_) λ_ _ h'=>h'.elim)) λ_ _ h'=>h'.elim);cases ok with
  |false=>exact wpAny_pure ⟨rfl,jt⟩
  |true =>
   exact ae (ae (aU jt (λx eY lN=>ae (aU lN (λ_ fQ lM=>aj (aj ⟨rfl,lM⟩)) λ_ _ h'=>h'.elim)) λ_ _ h'=>h'))
end
def iO(X:Cx)(es:List Expr)(t:TT):Prop :=
 ∀(pins:List (Addr×Obj)) (s:Shared) (Z:St) (H:Hp) (Q:Bool->Hp->Prop),Inv X pins Z H s->t Z H Q ->
  wpAny (model X.prog X.w) X.A (forIn es true λc r=>if r=true then do let ok <- isTrue c X.env (eval c X.env);pure (ForInStep.yield ok) else pure (ForInStep.yield r)) (TP X pins Z Q) X.xe s
def Fd:TT:=λ_ H Q=>Q true H
theorem Je:iO X [] Fd:=λpins s Z H Q I h=>aj ⟨H,I,h⟩
theorem Jf{c:Expr}{t:TT}(h:PT X c t):iO X [c] t:=by
 intro pins s Z H Q I q;exact ae (ae (aU (h pins s Z H Q I q) (λb s' hb=>aj (aj hb)) λ_ _ x=>x))
def v5(scope:Scope)(cl:List (Str×Addr))(C:Addr):List (Str×Addr):=cellsFrom (C+1) scope.names []++cl
theorem E0:∀(names:List (Str×NameKind)) (n:Nat) (acc:List (Str×Addr)),cellsFrom n names acc=cellsFrom n names []++acc
 |[],_,_=>rfl
 |(y,k)::r,n,acc=>by
  unfold cellsFrom;split
  ·rw[E0 r (n+1) ((y,n)::acc),E0 r (n+1) [(y,n)],jL]
   rfl
  ·exact E0 r n acc
theorem V1{x:Str}{c:Addr}:∀{names:List (Str×NameKind)} {n:Nat},(x,c)∈cellsFrom n names []->(x,NameKind.cell)∈names
 |[],_,h=>by simp[cellsFrom] at h
 |(y,k)::r,n,h=>by
  unfold cellsFrom at h;split at h
  ·rw[E0] at h;rcases bA.mp h with z|z
   ·exact bJ _ (V1 z)
   grind
  ·exact bJ _ (V1 h)
theorem M1{α:Type}:∀{a b:List (Str×α)},(a++b).lookup x=(a.lookup x).or (b.lookup x)
 |[],_=>rfl
 |(y,v)::r,b=>by
  grind
theorem GD(h:scope.names.lookup x=some .cell\/∃c,cl.lookup x=some c):∃c,(v5 scope cl C).lookup x=some c:=by
 unfold v5;rw[M1];cases e:(cellsFrom (C+1) scope.names []).lookup x with
 |some c=>exact⟨c,rfl⟩
 |none =>
  rcases h with h|h
  ·have q:=dg scope.names (C+1) [] (.inl h);rw[e] at q;cases q
  ·exact h
theorem M7{env:Env}:∀{names:List (Str×NameKind)} {x:Str},names.lookup x=some .cell ->
  (names.map λ(n,k)=>if(k==NameKind.free&&env.scope.kind==.function&&env.kindOf n==some .cell) then(n,NameKind.cell) else(n,k)).lookup x=some .cell
 |[],_,h=>by simp at h
 |(n,k)::r,x,h=>by
  have ih:=@M7 env r x;show List.lookup x ((if(k==NameKind.free&&env.scope.kind==.function&&env.kindOf n==some .cell)=true then(n,NameKind.cell) else(n,k))::_)=_;cases hx:x==n with
  |true =>
   simp only[List.lookup_cons,hx] at h
   simp_all
  |false =>
   simp only[List.lookup_cons,hx] at h;by_cases hc:(k==NameKind.free&&env.scope.kind==.function&&env.kindOf n==some .cell)=true
   ·rw[aN hc];simp only[List.lookup_cons,hx];exact ih h
   ·rw[aG hc];simp only[List.lookup_cons,hx];exact ih h
theorem Jx{h:Heap}(ck:CellsOk h (C+1) (cellsFrom (C+1) scope.names [])){c:Addr}(e:(v5 scope cl C).lookup x=some c):C<c\/cl.lookup x=some c:=by
 unfold v5 at e;rw[M1] at e;cases e2:(cellsFrom (C+1) scope.names []).lookup x with
 |some c' =>
  rw[e2] at e;cases e;exact .inl (ck.empty x c (aL e2)).2
 |none =>
  rw[e2] at e;exact .inr e
theorem Q6{M:Model}{E:Value->Shared->Prop}{globals:Addr}{outer:Env}{Q:Env->Shared->Prop}(hQ:∀ cC:Heap,cC.Ns s.heap.objs.size (λ_=>none)->(∀ b o,s.heap.get? b=some o->cC.get? b=some o)->CellsOk cC (s.heap.objs.size + 1) (cellsFrom (s.heap.objs.size + 1) scope.names []) ->
   Q (newEnv scope s.heap.objs.size globals (v5 scope cl s.heap.objs.size) qual none .none (some outer) builtinsNs) { s with heap:=cC }) :
  wpAny M A (newFunctionEnv scope globals cl [] qual none .none (some outer)) Q E s:=by
 simp only[newFunctionEnv,Option.isSome_some,if_true];refine ae (wpAny_alloc ?_);refine ae (wpAny_layCells _ (λname kind cells=>by rfl) _ _ _ _ ?_);have ok:=cellsFrom_ok scope.names (s.heap.push { cls:=.type "dict",data:=.dict #[] }) (s.heap.objs.size+1) [] ⟨λ_ _ hm=>(nomatch hm),List.Pairwise.nil⟩ (by simp);rw[dn] at ok;rw[show({ s with heap:=s.heap.push { cls:=.type "dict",data:=.dict #[] } }:Shared).heap.objs.size=s.heap.objs.size+1 from dn ..];refine ae (aj (aj ?_));rw[E0];exact hQ _ ((Heap.Ns.new s.heap (.type "dict")).keeps (pushCells_keeps _ _)) (λb o e=>pushCells_keeps _ _ b o (ai _ e)) ok
def c8(X:Cx)(pins:List (Addr×Obj))(scope:Scope)(N':List Str)(cl:List (Str×Addr))(C:Addr)(s:Shared)(H:Hp)(fp:List Addr):Cx where
 prog:=X.prog
 w:=X.w
 K:=X.K
 mg:=X.mg
 base:=X.base
 A:=X.A
 N:=N'
 cV:=s
 iK:=H
 env:=compEnvC scope (v5 scope cl C) C X.env
 outer:=X.stack
 stack:=X.stack
 ex:=fp
 calm:=true
 fn:=λx=>decide (scope.names.lookup x=some .cell)
 pn:=X.pn++pins
 xe:=λ_ _=>False
structure cj(X:Cx)(scope:Scope)(N':List Str)(c7:List Nat)(cl:List (Str×Addr)):Prop where
 kind:scope.kind=.function
 cells:∀y∈scope.names,y.2=.cell->scope.names.lookup y.1=some .cell
 names:∀y∈scope.names,y.2=.local->scope.names.lookup y.1=some .local
 lZ:closureFor scope X.env=pure cl
 cin:∀x c,cl.lookup x=some c->X.env.cells.lookup x=some c
 uA:∀x,scope.names.lookup x=some .free->∃c,cl.lookup x=some c
 nd:N'.Nodup
 Oa:∀(i j:Nat),c7[i]?=some j->∃x,N'[i]?=some x/\X.N[j]?=some x/\scope.names.lookup x=some .free/\(X.env.kindOf x=some .cell\/X.env.kindOf x=some .free)
 Au:c7.length<=N'.length
theorem E2{env:Env}:∀{names:List (Str×NameKind)} {x:Str},names.lookup x=some .free ->
  (names.map λ(n,k)=>if(k==NameKind.free&&env.scope.kind==.function&&env.kindOf n==some .cell) then(n,NameKind.cell) else(n,k)).lookup x=some .cell \/
  (names.map λ(n,k)=>if(k==NameKind.free&&env.scope.kind==.function&&env.kindOf n==some .cell) then(n,NameKind.cell) else(n,k)).lookup x=some .free
 |[],_,h=>by simp at h
 |(n,k)::r,x,h=>by
  have ih:=@E2 env r x;show List.lookup x ((if(k==NameKind.free&&env.scope.kind==.function&&env.kindOf n==some .cell)=true then(n,NameKind.cell) else(n,k))::_)=_\/List.lookup x ((if(k==NameKind.free&&env.scope.kind==.function&&env.kindOf n==some .cell)=true then(n,NameKind.cell) else(n,k))::_)=_;cases hx:x==n with
  |true =>
   simp only[List.lookup_cons,hx] at h;cases h;by_cases hc:(NameKind.free==NameKind.free&&env.scope.kind==.function&&env.kindOf n==some .cell)=true
   ·rw[aN hc];simp[List.lookup_cons,hx]
   ·rw[aG hc];simp[List.lookup_cons,hx]
  |false =>
   simp only[List.lookup_cons,hx] at h;by_cases hc:(k==NameKind.free&&env.scope.kind==.function&&env.kindOf n==some .cell)=true
   ·rw[aN hc];simp only[List.lookup_cons,hx];exact ih h
   ·rw[aG hc];simp only[List.lookup_cons,hx];exact ih h
theorem M8{env:Env}:∀{names:List (Str×NameKind)} {x:Str},((names.map λ(n,k)=>if(k==NameKind.free&&env.scope.kind==.function&&env.kindOf n==some .cell) then(n,NameKind.cell) else(n,k)).lookup x=some .cell \/
  (names.map λ(n,k)=>if (k == NameKind.free && env.scope.kind == .function && env.kindOf n == some .cell) then (n,NameKind.cell) else (n,k)).lookup x=some .free)->names.lookup x=some .free \/ names.lookup x=some .cell
 |[],_,h=>by simp at h
 |(n,k)::r,x,h=>by
  have ih:=@M8 env r x;rw[bY] at h;cases hx:x==n with
  |true =>
   simp only[List.lookup_cons,hx];by_cases hc:(k==NameKind.free&&env.scope.kind==.function&&env.kindOf n==some .cell)=true
   ·refine .inl ?_;simp only[Bool.and_eq_true,beq_iff_eq] at hc;rw[hc.1.1]
   ·simp only[if_neg hc,List.lookup_cons,hx] at h;rcases h with h|h
    ·exact .inr h
    ·exact .inl h
  |false =>
   simp only[List.lookup_cons,hx];by_cases hc:(k==NameKind.free&&env.scope.kind==.function&&env.kindOf n==some .cell)=true
   ·simp only[if_pos hc,List.lookup_cons,hx] at h;exact ih h
   ·simp only[if_neg hc,List.lookup_cons,hx] at h;exact ih h
def u5(Z:St)(c7:List Nat)(n:Nat):St:=c7.map (λj=>(Z[j]?).join)++List.replicate (n-c7.length) none
section
variable{pins:List (Addr×Obj)}{Z:St}{H:Hp}
theorem Inv.YH{h1:Heap}{tk:Nat}(I:Inv X pins Z H s)(S:cj X scope N' c7 cl)(hc:X.calm=true)(hf:∀b∈fp,C4 X pins H b)(ho:∀b∈fp,∃o,s.heap.get? b=some o)(hC:s.heap.objs.size<=C)(hn:∃m,h1.Ns C m)(k:∀b o,s.heap.get? b=some o->h1.get? b=some o)(ck:CellsOk h1 (C+1) (cellsFrom (C+1) scope.names [])) :
  Inv (c8 X pins scope N' cl C s H fp) [] (u5 Z c7 N'.length) H { s with heap:=h1,toks:=tk }:=by
 obtain⟨m,hm⟩:=hn;have Mv:(relabel scope X.env).kind=.function:=S.kind;have DI:∀b o,s.heap.get? b=some o->b≠C:=λb o e z=>absurd (az e) (by simp_all);have two:∀{x:Str} {c:Addr},(v5 scope cl C).lookup x=some c->(C<c/\h1.IsCell c none/\(x,c)∈cellsFrom (C+1) scope.names [])\/(cl.lookup x=some c/\(cellsFrom (C+1) scope.names []).lookup x=none):=λ{x c} h=>by
  unfold v5 at h;rw[M1] at h;cases e:(cellsFrom (C+1) scope.names []).lookup x with
  |some c' =>
   rw[e] at h;cases h;have hm:=aL e;exact .inl ⟨(ck.empty x c hm).2,(ck.empty x c hm).1,hm⟩
  |none =>
   rw[e] at h;exact .inr ⟨h,rfl⟩
 have sO:∀{x:Str} {c:Addr},cl.lookup x=some c->c<s.heap.objs.size:=λ{x c} h=>by
  obtain⟨v,o,e,_⟩:=I.cell x c (S.cin x c h);exact az e
 have frees:∀{x:Str},scope.names.lookup x=some .free->(v5 scope cl C).lookup x=cl.lookup x:=λ{x} h=>by
  unfold v5;rw[M1];cases e:(cellsFrom (C+1) scope.names []).lookup x with
  |some c' =>
   have:=S.cells _ (V1 (aL e)) rfl
   simp_all
  |none=>rfl
 refine⟨⟨I.mod,Mv,I.ok.glob,I.ok.blt,hC,?_,?_,?_,λ_=>I.ok.hd hc,I.ok.frames,.inl rfl,?_,I.bs,?_,?_,?_,I.stack,I.xf⟩,rfl,I.bare,Un.kept k,⟨m,hm,?_⟩,?_,?_,?_,?_,I.bz.kept k,?_,λcM z=>absurd (show(none:Option (List (Option V)))=some cM from z) (by simp)⟩
 ·intro x y c h1 h2;rcases two h1 with⟨l1,_,q1⟩|⟨q1,_⟩<;>rcases two h2 with⟨l2,_,q2⟩|⟨q2,_⟩
  ·exact PySem.name_of_addr ck.apart q1 q2
  ·exact absurd (cH l1 (ay (sO q2) hC)) (bD _)
  ·exact absurd (cH l2 (ay (sO q1) hC)) (bD _)
  ·exact I.ok.inj x y c (S.cin x c q1) (S.cin y c q2)
 ·intro x hx;rcases M8 (env:=X.env) (names:=scope.names) hx with z|z
  ·obtain⟨c,hc⟩:=S.uA x z;exact⟨c,(frees z).trans hc⟩
  ·have q:=dg scope.names (C+1) [] (.inl z);obtain⟨c,hc⟩:=dY.mp q;refine⟨c,?_⟩;show(v5 scope cl C).lookup x=some c;unfold v5;rw[M1,hc]
   rfl
 ·intro x c hf h;have z:scope.names.lookup x=some .cell:=aQ hf;have q:=dg scope.names (C+1) [] (.inl z);rcases two h with⟨l,_⟩|⟨_,e⟩
  ·exact cT (fO hC l)
  simp_all
 ·intro b hb;obtain⟨f0,f1,f2,f3,f4,f5⟩:=hf b hb;obtain⟨o,e⟩:=ho b hb;refine⟨DI b o e,λx c h=>?_⟩;rcases two h with⟨l,_⟩|⟨q,_⟩
  ·intro z;subst z;exact absurd (cH l (ay (az e) hC)) (bD _)
  ·exact f4 x c (S.cin x c q)
 ·exact aA I.ok.mf I.sz
 ·intro b o e hb;obtain⟨f0,f1,f2,f3,f4,f5⟩:=hf b hb;rcases f3 with f3|f3
  ·exact I.ok.jq b o e f3
  ·exact absurd (az (I.ok.bs b o e).1) (KH.mpr f3)
 ·intro b hb z;obtain⟨f0,f1,f2,f3,f4,f5⟩:=hf b hb;rcases aC.mp (I.T6 b z) with z|z
  ·exact f1 z
  ·exact f2 z
 ·intro i x v zZ h2 h3;have hi:i<c7.length:=by
   unfold u5 at h2;by_cases hi:i<c7.length
   ·exact hi
   ·rw[cL (by simpa using hi),da] at h2
    simp_all
  obtain⟨j,hj⟩:∃j,c7[i]?=some j:=⟨_,ak hi⟩
  have hs:Z[j]?=some (some v):=by
   unfold u5 at h2;rw[aI (by simpa using hi),ah,hj] at h2;simp only[Option.map_some] at h2;cases e:Z[j]? with
   |none=>rw[e] at h2;cases h2
   |some a=>rw[e] at h2;exact dX some (aD h2)
  obtain⟨y,LK,LJ,yL,LH⟩:=S.Oa i j hj;have ey:y=x:=by
   have uf:N'[i]?=some x:=zZ;rw[LK] at uf;exact aD uf
  subst ey;obtain⟨m0,hm0,hl⟩:=I.loc;obtain ⟨u,ru,hu⟩:=hl j y v LJ hs (by
   rcases LH with z|z
   ·exact .inr (.inl z)
   ·exact .inr (.inr z))
  refine⟨u,ru,.inr ⟨E2 (env:=X.env) (names:=scope.names) yL,?_⟩⟩;rcases hu with⟨z,_⟩|⟨_,c,zh,ow⟩
  ·simp_all
  ·obtain⟨c',mK⟩:=S.uA y yL;have e:=S.cin y c' mK;rw[zh] at e;cases e;obtain⟨o,e1,e2⟩:=ow;exact⟨c,(frees yL).trans mK,o,k _ _ e1,e2⟩
 ·intro x c h;rcases two h with⟨_,q,_⟩|⟨q,_⟩
  ·exact⟨none,q⟩
  ·obtain⟨v,o,e1,e2⟩:=I.cell x c (S.cin x c q);exact⟨v,o,k _ _ e1,e2⟩
 ·exact I.bz.fresh hC
 ·intro x c h;rcases two h with⟨l,_⟩|⟨q,_⟩
  ·exact I.bz.fresh (cT (fO hC l))
  ·exact I.dS x c (S.cin x c q)
 ·intro p hp;have ia:p∈X.pn++pins:=by simpa[c8] using hp
  obtain⟨p1,p2,p3,p4,p5⟩:=I.pin p ia;refine⟨k _ _ p1,p2,DI _ _ p1,λz=>?_,p5⟩;rcases aC.mp (I.T6 _ z) with z|z
  ·exact p3 z
  ·exact p4 z
 ·unfold u5;show _=N'.length;rw[dh,av,vK];have:=S.Au;omega
theorem Inv.RA{eK:List (Addr×Obj)}{bT:St}{H':Hp}{s':Shared}(I:Inv X pins Z H s)(hf:∀b∈fp,C4 X pins H b)(J:Inv (c8 X pins scope N' cl C s H fp) eK bT H' s'):Inv X pins Z H' s' :=
 I.BX (ch:=fp) J.os J.base J.bz J.bare λb hb=>by
  obtain⟨f0,f1,f2,f3,f4,f5⟩:=hf b hb;exact⟨f3,f1,f4,f5⟩
theorem Inv.Ws{D:Addr}{ys:List V}{aX:List Value}{n:Nat}(I:Inv X pins Z H s)(f:C4 X pins H D)(hs:X.cV.heap.objs.size<=D)(hv:Vals ys aX)(hz:ys.length<=sizeLine)(ho:s.heap.get? D=some { cls:=.type "list",data:=.seq aX.toArray n }):Inv X pins Z (upd H D (.lst ys)) s:=by
 obtain⟨f0,f1,f2,f3,f4,f5⟩:=f;have fK:∀b o,X.cV.heap.get? b=some o->b≠D:=λb o e z=>absurd (az e) (by rw[z];exact KH.mpr hs);have tup:∀b u,H b=some u->upd H D (.lst ys) b=some u:=λb u e=>by rw[b9 (d4 e f0)];exact e
 refine⟨I.ok,I.os,I.bare,⟨?_,?_,?_,I.base.there,?_,?_,?_⟩,I.loc,I.cell,?_,?_,?_,?_,I.len,I.sg⟩
 ·exact λb o e n1 n2 n3=>I.base.keep b o e n1 n2 n3
 ·exact λb o e n1 n2 n3=>I.base.slot b o e n1 n2 n3
 ·exact λb o e n1 n2=>by rw[b9 (fK b o e)];exact I.base.free b o e n1 n2
 ·exact λb xs e=>tup _ _ (I.base.gS b xs e)
 ·exact λb o u e=>tup _ _ (I.base.gH b o u e)
 ·exact λb ps e=>by
   obtain⟨more,q⟩:=I.base.gT b ps e;exact⟨more,tup _ _ q⟩
 ·rw[b9 f1.symm];exact I.free
 ·exact λx c e=>by rw[b9 (f4 x c e)];exact I.dS x c e
 ·intro p hp;obtain⟨p1,p2,p3⟩:=I.pin p hp;exact⟨p1,by rw[b9 (f5 p hp)];exact p2,p3⟩
 ·intro a o e;by_cases ha:a=D
  ·subst ha;rw[d8] at e;cases e;exact⟨hz,aX,n,hv,ho⟩
  ·rw[b9 ha] at e;have q:=I.bz a o e;refine q.A7 (λb u _ h=>h) (λb hb=>tup _ _ hb) (λb xs hb=>tup _ _ hb)
end
def Cm(wi:TI)(c7:List Nat)(n:Nat)(g:TG)(tc:TT)(te:TE):TE:=λZ H Q=>wi Z H λJ H1=>∃W:Nat->Nat->List V->St->Hp->Prop,(∃m,W 0 m [] (u5 Z c7 n) H1)/\∀i m ys Z H,W i m ys Z H ->
 (J.stop i H/\∀p,H p=none->Q (.ref p) (upd H p (.lst ys))) \/
 (J.go i H/\ys.length < sizeLine/\∀ x H',J.mq i H x H'->g x Z H' λcb H2=>tc cb H2 λb H3 =>
  if b=true then te cb H3 λy H4=>∃ m',m' < m/\W (i + 1) m' (ys ++ [y]) cb H4 else ∃ m',m' < m/\W (i + 1) m' ys cb H3)
noncomputable abbrev TK(aX:List Value)(n:Nat):Obj:={ cls:=.type "list",data:=.seq aX.toArray n }
section
variable{pins:List (Addr×Obj)}{Z:St}{H:Hp}
structure xT(X:Cx)(n0:Nat){α:Type}(K:Addr->α->Heap->Obj->Prop)(fin:Addr->α->HO):Prop where
 nc:∀{a y h o},K a y h o->∀v,o.data≠.cell v
 get:∀{a y h o},K a y h o->h.get? a=some o
 A7:∀{a y h h' o},K a y h o->h'.get? a=some o->K a y h' o
 done:∀{pins Z H s a y o},n0<=a->Inv X pins Z H s->C4 X pins H a->X.cV.heap.objs.size<=a->K a y s.heap o->Inv X pins Z (upd H a (fin a y)) s
theorem Bq{α:Type}{K:Addr->α->Heap->Obj->Prop}{fin:Addr->α->HO}{y0:α}{o0:Obj}{Bd:α->Prop}{tb:α->St->Hp->(α->Hp->Prop)->Prop}{body:(Shared->Prop)->Shared->Prop}{LP:Shared->Prop}{it:Addr}{tn:Nat->Heap->Prop}{J:It}{R:Result->Shared->Prop}{W:Nat->Nat->α->St->Hp->Prop}{m0:Nat}{Q:VK}{cC:Heap}{env:Env}(G:xT X s.heap.objs.size K fin)(S:cj X scope N' c7 cl)(hc:X.calm=true)(hg:PG (c8 X pins scope N' cl C s H fp) tg g)(ht:iO (c8 X pins scope N' cl C s H fp) ifs tc)(I:Inv X pins Z H s)(T:Turn X.prog X.w X.K tg J fp it tn)(st:tn 0 s.heap)(hf:∀b∈fp,C4 X pins H b)(w0:W 0 m0 y0 (u5 Z c7 N'.length) H)(turn:∀ i m y Z H,W i m y Z H->(J.stop i H/\∀ p,H p=none->Q (.ref p) (upd H p (fin p y))) \/
   (J.go i H/\Bd y/\∀ x H',J.mq i H x H'->g x Z H' λcb H2=>tc cb H2 λb H3 =>
    if b=true then tb y cb H3 λy' H4=>∃ m',m' < m/\W (i + 1) m' y' cb H4 else ∃ m',m' < m/\W (i + 1) m' y cb H3))(pM:∀s' H' m,Inv X pins Z H' s'->Q (.ref s.heap.objs.size) H'->s'.heap.Ns C m->H' C=none->s.heap.objs.size<=C->R (.ok .next) s')(wk:∃m,cC.Ns C m)(qI:∀b o,(s.heap.push o0).get? b=some o->cC.get? b=some o)(kZ:CellsOk cC (C+1) (cellsFrom (C+1) scope.names []))(eC:s.heap.objs.size+1=C)(k0:K s.heap.objs.size y0 cC o0)(ev:(c8 X pins scope N' cl C s H fp).env=env)(zq:∀ y o eK bT H' s' (P:α->Hp->Prop) (R':Shared->Prop),Bd y->K s.heap.objs.size y s'.heap o->(∀ {vM H8 s8},Inv (c8 X pins scope N' cl C s H fp) eK vM H8 s8->s8.heap.get? s.heap.objs.size=some o)->Inv (c8 X pins scope N' cl C s H fp) eK bT H' s'->tb y bT H' P ->
   (∀ s8 H8 y' h' t' o',Inv (c8 X pins scope N' cl C s H fp) eK bT H8 s8->P y' H8->(∀ b u,b ≠ s.heap.objs.size->s8.heap.get? b=some u->h'.get? b=some u)->K s.heap.objs.size y' h' o'->R' { s8 with heap:=h',toks:=t' })->body R' s')(lp:∀ (I:Nat->Shared->Prop),(∀ n s,I n s->wpAny (model X.prog X.w) X.A (pyNext (.ref it)) (λr bp=>match r with
   |none=>R (.ok .next) bp
   | some v=>wpAny (model X.prog X.w) X.A (letOwnedTupleGo tg (.ref it) v) (λ_ bp=>wpAny (model X.prog X.w) X.A (assign tg env v) (λ_ ee =>
     wpAny (model X.prog X.w) X.A (forIn ifs true λc r=>if r=true then do let ok <- isTrue c env (eval c env);pure (ForInStep.yield ok) else pure (ForInStep.yield r)) (λok du =>
      if ok=true then body (λfQ=>∃ m,m < n/\I m fQ) du else ∃ m,m < n/\I m du) (λ_ _=>False) ee) (λ_ _=>False) bp) (λ_ _=>False) bp) (λ_ _=>False) s)->∀ n,I n { s with heap:=cC }->LP { s with heap:=cC }) :
  tn 0 cC/\LP { s with heap:=cC }:=by
 subst ev;generalize zA:s.heap.push o0=H2 at qI;generalize eD:s.heap.objs.size=D at *;have EA:D≠C:=by omega
 have lt:∀b o,s.heap.get? b=some o->b<D:=λb o e=>by rw[<- eD];exact az e
 have vY:D<=C:=by omega
 have qz:∀b o,s.heap.get? b=some o->b≠C:=λb o e=>aJ (ay (lt b o e) vY);have sU:∀b o,s.heap.get? b=some o->b≠D:=λb o e=>aJ (lt b o e);have old:∀b o,s.heap.get? b=some o->cC.get? b=some o:=λb o e=>qI b o (zA▸ai _ e);have jR:∀b∈fp,∃o,s.heap.get? b=some o:=λb hb=>by
  obtain⟨o,e,_⟩:=T.obj _ _ st b hb;exact⟨o,e⟩
 have Ez:D∉fp:=λhm=>by
  obtain⟨o,e⟩:=jR D hm;exact sU D o e rfl
 have X1:Inv (c8 X pins scope N' cl C s H fp) [] (u5 Z c7 N'.length) H { s with heap:=cC } :=
  I.YH S hc hf jR (by rw[eD];omega) wk old kZ
 have DA:tn 0 cC:=T.keep _ _ _ st λb _ o e=>old b o e;have NN:∀{H':Hp},(∀b∈fp,H' b=none)->∀b∈fp,C4 (c8 X pins scope N' cl C s H fp) [] H' b:=λhn b hb=>by
  obtain⟨f0,f1,f2,f3,f4,f5⟩:=hf b hb;obtain⟨o,e⟩:=jR b hb;refine⟨hn b hb,?_,?_,.inl hb,λx c q=>(Jx kZ q).elim (λl z=>absurd (cH (z▸l) (ay (lt b o e) vY)) (bD _)) λq=>f4 x c (S.cin x c q),λp hp=>?_⟩
  ·exact qz b o e
  ·exact λz=>by
    rcases aC.mp (I.T6 b z) with z|z
    ·exact f1 z
    ·exact f2 z
  ·have ia:p∈X.pn++pins:=by simpa[c8] using hp
   exact f5 p ia
 have fD:∀{H':Hp},H' D=none->C4 (c8 X pins scope N' cl C s H fp) [] H' D:=λhn=>by
  refine⟨hn,EA,λz=>?_,.inr (by show s.heap.objs.size<=D;omega),λx c q=>?_,λp hp=>?_⟩
  ·exact absurd (I.AK (a:=D) ()) λmH=>by
    rcases aC.mp (I.T6 D z) with z|z
    ·exact absurd I.lt (by rw[<- z,eD];exact bD _)
    ·exact mH z
  ·rcases Jx kZ q with l|q
   ·exact λz=>absurd (ay (z▸l) vY) (bD _)
   ·obtain⟨v,o,e,_⟩:=I.cell x c (S.cin x c q);exact sU c o e
  ·have ia:p∈X.pn++pins:=by simpa[c8] using hp
   exact sU _ _ (I.pin p ia).1
 refine⟨DA,lp (λn s'=>∃(i:Nat) (y:α) (bT:St) (H':Hp) (o:Obj),Inv (c8 X pins scope N' cl C s H fp) [] bT H' s'/\tn i s'.heap/\(∀b∈fp,H' b=none)/\H' D=none/\K D y s'.heap o/\W i n y bT H') ?_ m0 ⟨0,y0,_,H,o0,X1,DA,λb hb=>(hf b hb).1,I.bz.fresh (),k0,w0⟩⟩;rintro n s3 ⟨i,y,hX,H3,o,I3,sE,uh,d3,k3,w3⟩;have Kw:Inv (c8 X pins scope N' cl C s H fp) [(D,o)] hX H3 s3:=I3.ve λp hp=>by
  have z:p=(D,o):=by simpa using hp
  subst z;obtain⟨f0,f1,f2,_⟩:=fD d3;exact⟨G.get k3,f0,f1,f2,G.nc k3⟩
 have kK:∀{H':Hp},(∀b∈fp,H' b=none)->∀b∈fp,C4 (c8 X pins scope N' cl C s H fp) [(D,o)] H' b:=λ{H'} hn b hb=>by
  obtain⟨f0,f1,f2,f3,f4,f5⟩:=NN hn b hb;refine⟨f0,f1,f2,f3,f4,λp hp=>?_⟩;have ia:p∈(c8 X pins scope N' cl C s H fp).pn\/p=(D,o):=by simpa using hp
  rcases ia with z|z
  ·exact f5 p (dE _ z)
  ·subst z;exact λz=>Ez (by rw[show D=b from z];exact hb)
 rcases turn i n y hX H3 w3 with⟨stop,q⟩|⟨go,hz,step⟩
 ·refine cq (T.done (c8 X pins scope N' cl C s H fp) rfl rfl rfl rfl i _ s3 _ H3 _ Kw (kK uh) sE stop) λr s4 ⟨hr,I4⟩=>?_;subst hr;have J4:Inv X pins Z H3 s4:=I.RA hf I4;have Ah:C4 X pins H3 D:=by
   refine⟨d3,bw (by rw[<- eD];exact I.lt),I.AK (),.inr (by have:=I.sz;omega),λx c q=>?_,λp hp=>?_⟩
   ·obtain⟨v,o,e,_⟩:=I.cell x c q;exact sU c o e
   ·exact sU _ _ (I.pin p hp).1
  obtain⟨mC,Mp,_⟩:=I4.loc;exact pM s4 _ mC (G.done (au _) J4 Ah (by have:=I.sz;omega) (G.A7 k3 (I4.pin (D,o) (by simp)).1)) (q D d3) Mp (by rw[b9 EA.symm];exact I4.free) vY
 ·refine cq (T.item (c8 X pins scope N' cl C s H fp) rfl rfl rfl rfl i _ s3 _ H3 _ Kw (kK uh) sE go) λr s4 ⟨u,hr,h4⟩=>?_;subst hr;refine cq h4 λ_ s5 aZ=>?_;obtain⟨x,H5,I5,r5,y5,pk,Ag⟩:=aZ;have Dh:=I5.pinned (kK Ag) (T.obj _ _ pk);refine cq (hg _ s5 _ H5 x u _ Dh r5 (step x H5 y5)) λ_ s6 aZ=>?_;obtain⟨oY,H6,I6,q6⟩:=aZ;refine cq (ht _ s6 oY H6 _ I6 q6) λok s7 ⟨H7,I7,q7⟩=>?_;have back:∀{vM:St} {H8:Hp} {s8:Shared},Inv (c8 X pins scope N' cl C s H fp) ([(D,o)]++uW fp s5.heap) vM H8 s8->(∀b∈fp,H8 b=none)/\tn (i+1) s8.heap/\H8 D=none/\s8.heap.get? D=some o :=
   λ{vM H8 s8} I8=>by
    have pf:∀b∈fp,∀o,s5.heap.get? b=some o->s8.heap.get? b=some o/\H8 b=none:=λb hb o e=>by
     have:=I8.pin (b,o) (bE _ (bE _ (BL hb e)));exact⟨this.1,this.2.1⟩
    have pd:=I8.pin (D,o) (by simp);refine⟨λb hb=>?_,T.keep _ _ _ pk λb hb o e=>(pf b hb o e).1,pd.2.1,pd.1⟩;obtain⟨o,e,_⟩:=T.obj _ _ pk b hb;exact(pf b hb o e).2
  cases ok with
  |false =>
   obtain⟨m',hm,w7⟩:=q7;obtain⟨b1,b2,b3,b4⟩:=back I7;exact⟨m',hm,i+1,y,oY,H7,o,I7.ve λp hp=>absurd hp (by simp),b2,b1,b3,G.A7 k3 b4,w7⟩
  |true =>
   refine zq y o _ oY H7 s7 _ _ hz (G.A7 k3 (back I7).2.2.2) (λI8=>(back I8).2.2.2) I7 q7 λs8 H8 y' h' t' o' I8 ⟨m',hm,w8⟩ kp k8=>?_;obtain⟨b1,b2,b3,b4⟩:=back I8;have I8':Inv (c8 X pins scope N' cl C s H fp) [] oY H8 s8:=I8.ve λp hp=>absurd hp (by simp);obtain⟨f0,f1,f2,f3,f4,f5⟩:=fD (H':=H8) b3;exact⟨m',hm,i+1,y',oY,H8,o',I8'.turned (it:=D) (t':=t') (λb o hb e=>kp b o hb e) f0 f1 f3 f4 f5,T.keep _ _ _ b2 λb hb o e=>kp b o (λz=>Ez (by rw[<- z];exact hb)) e,b1,b3,k8,w8⟩
def KL(a:Addr)(ys:List V)(h:Heap)(o:Obj):Prop:=∃aX n,Vals ys aX/\ys.length<=sizeLine/\o=TK aX n/\h.get? a=some o
theorem RH{n0:Nat}:xT X n0 KL λ_ ys=>.lst ys where
 nc:=λ⟨_,_,_,_,e,_⟩ v z=>by subst e;cases z
 get:=λ⟨_,_,_,_,_,e⟩=>e
 A7:=λ⟨aX,n,h1,h2,h3,_⟩ e=>⟨aX,n,h1,h2,h3,e⟩
 done:=λ_ I f hs ⟨aX,n,h1,h2,h3,e⟩=>I.Ws f hs h1 h2 (h3▸e)
theorem Hf{it:Addr}{tn:Nat->Heap->Prop}{J:It}{xx:Addr->Shared->Hp->Value->Shared->Prop}{RR:Value->Addr->Result->Shared->Prop}{E:Value->Shared->Prop}{W:Nat->Nat->List V->St->Hp->Prop}{m0:Nat}{Q:VK}(S:cj X scope N' c7 cl)(hc:X.calm=true)(hg:∀C s H,PG (c8 X pins scope N' cl C s H fp) tg g)(ht:∀C s H,iO (c8 X pins scope N' cl C s H fp) ifs tc)(he:∀C s H,PE ((c8 X pins scope N' cl C s H fp).nV (xx C s H)) elt te)(I:Inv X pins Z H s)(T:Turn X.prog X.w X.K tg J fp it tn)(st:tn 0 s.heap)(hf:∀b∈fp,C4 X pins H b)(w0:W 0 m0 [] (u5 Z c7 N'.length) H)(turn:∀ i m ys Z H,W i m ys Z H->(J.stop i H/\∀ p,H p=none->Q (.ref p) (upd H p (.lst ys))) \/
   (J.go i H/\ys.length < sizeLine/\∀ x H',J.mq i H x H'->g x Z H' λcb H2=>tc cb H2 λb H3 =>
    if b=true then te cb H3 λy H4=>∃ m',m' < m/\W (i + 1) m' (ys ++ [y]) cb H4 else ∃ m',m' < m/\W (i + 1) m' ys cb H3))(pM:∀D C s' H' m,Inv X pins Z H' s'->Q (.ref D) H'->s'.heap.Ns C m->H' C=none->s.heap.objs.size<=C->RR (.ref D) C (.ok .next) s')(MX:∀D C e s',s.heap.objs.size<=C->xx C s H e s'->notedBy (model X.prog X.w) X.A (compEnvC scope (v5 scope cl C) C X.env) (λe s'=>RR (.ref D) C (.error e) s') e s') :
  wpAny (model X.prog X.w) X.A (newList []) (λacc du=>wpAny (model X.prog X.w) X.A (newFunctionEnv scope X.env.globals cl [] X.env.qual none .none (some X.env)) (λjd eY =>
   jd.frame=X.env.frame/\codeAny (model X.prog X.w) X.A (.compStart (.ListComp elt [⟨tg,iter,ifs,0⟩] scope pos) 0 (.ref it) acc { jd with scope:=relabel scope X.env }) (RR acc jd.locals) eY) E du) E s:=by
 refine cx (Q6 λcC fH eh kZ=>?_);dsimp only at fH eh kZ ⊢;have eC:(s.heap.push { cls:=.type "list",dict:=none,data:=.seq ([]:List Value).toArray }).objs.size=s.heap.objs.size+1:=dn ..
 replace eC:=eC.symm
 generalize (s.heap.push { cls:=.type "list",dict:=none,data:=.seq ([]:List Value).toArray }).objs.size=C at *;refine (λL=>⟨rfl,codeAny_compStart_list L.2 (T.self _ 0 _ _ _ L.1 L.2)⟩) (Bq (R:=RR (.ref s.heap.objs.size) C) (LP:=codeAny (model X.prog X.w) X.A (.compLoop (.ListComp elt [⟨tg,iter,ifs,0⟩] scope pos) 0 (.ref it) (.ref s.heap.objs.size) (compEnvC scope (v5 scope cl C) C X.env)) (RR (.ref s.heap.objs.size) C)) (tb:=λys Z H P=>te Z H λy H'=>P (ys ++ [y]) H') (env:=compEnvC scope (v5 scope cl C) C X.env)
  (body:=λP du=>wpAny (model X.prog X.w) X.A (eval elt (compEnvC scope (v5 scope cl C) C X.env)) (λx eY=>wpAny (model X.prog X.w) X.A (call (.builtin "list.append") [.ref s.heap.objs.size,x]) (λ_ fQ=>P fQ) (λ_ _=>False) eY) (notedBy (model X.prog X.w) X.A (compEnvC scope (v5 scope cl C) C X.env) λe s'=>RR (.ref s.heap.objs.size) C (.error e) s') du)
  RH S hc (hg C s H) (ht C s H) I T st hf w0 turn (λs' H' m=>pM _ C s' H' m) ⟨_,fH⟩ eh kZ eC ⟨[],0,.nil,cc _,rfl,eh _ _ (ax _ rfl)⟩ rfl (λys o eK bT H' s' P R' hz k hb I' q hR=>?_) (λI turn n h=>ZS I turn n h))
 ·refine aU (he C s H _ s' bT H' _ (I'.nV _) q) (λxv s8 aZ=>?_) λe s' hx=>MX _ C e s' () hx;obtain⟨y,H8,I8,r8,q8⟩:=aZ;have I8:=I8.CN;obtain⟨aX,nn,v3,z3,rfl,_⟩:=k;have b4:=hb I8;refine eL F.slot_list_append ⟨_,b4,rfl⟩ F.entry_list_append (F.args_list_append_2 _ _) (PySem.list_append _ aX.toArray nn xv (by rw[aP];have:=v3.length;omega)) ⟨b4,?_⟩;have q0:=PySem.IsL.update b4 (·.push xv);rw[show aX.toArray.push xv=(aX++[xv]).toArray by simp] at q0;exact hR s8 H8 _ _ s8.toks _ I8 q8 (λb' u hb hu=>(bW s8.heap (Obj.mapSeq (·.push xv)) (bf hb)).trans hu) ⟨_,_,v3.append (.cons r8 .nil),by rw[dh,vJ];omega,rfl,q0⟩
theorem Inv.Cc{h':Heap}{s2:Shared}{H2:Hp}(I:Inv X pins Z H s)(hC:s2.heap.objs.size<=C)(I2:Inv X pins Z H2 s2)(hn:H C=none)(sb:Heap.SameBut C s.heap h'):Inv X pins Z H { s with heap:=h' }:=by
 have f:=I2.Z2 (b:=C) (H':=H) hC hn;obtain⟨f0,f1,f2,f3,f4,f5⟩:=f;exact I.turned (t':=s.toks) (λb o hb e=>sb.extBut b o hb e) f0 f1 f3 f4 f5
theorem Hh{M:Model}{E:Value->Shared->Prop}{a:Sem Value}{b:Sem Env}{P:Env->Prop}{Q:Value->Env->Shared->Prop}(h:wpAny M A a (λx s1=>wpAny M A b (λy s2=>P y/\Q x y s2) E s1) E s):wpAny M A a (λx s1=>wpAny M A b (λy s2=>Q x y s2) E s1) E s :=
 aU h (λ_ _ h=>aU h (λ_ _ h=>h.2) λ_ _ z=>z) λ_ _ z=>z
theorem IX{wi:TI}(S:cj X scope N' c7 cl)(hc:X.calm=true)(hi:PI X tg iter wi)(hg:∀pins C s H fp,PG (c8 X pins scope N' cl C s H fp) tg g)(ht:∀pins C s H fp,iO (c8 X pins scope N' cl C s H fp) ifs tc)(he:∀pins C s H fp,PE (c8 X pins scope N' cl C s H fp) elt te)(hs:∀x,foldedSetIterable iter X.env x=pure x):PE X (.ListComp elt [⟨tg,iter,ifs,0⟩] scope pos) (Cm wi c7 N'.length g tc te):=by
 intro pins s Z H Q I h;refine de (use:=none) rfl hs S.lZ S.kind S.names (cq (hi pins s Z H _ I h) λxv bp cC=>cq cC λpF ee fG=>?_);obtain⟨it,fp,tn,J,H2,e,I2,T,iD,f2,W,⟨m0,w0⟩,turn⟩:=fG;subst e;refine Hh (Hf (xx:=λ_ _ _ _ _=>False) (RR:=λacc C=>compPost (model X.prog X.w) X.A X.xe none (EP X pins Z Q) acc C) S hc (λC s H=>hg pins C s H fp) (λC s H=>ht pins C s H fp) (λC s H=>he pins C s H fp) I2 T iD f2 w0 turn ?_ λ_ _ _ _ _ z=>z.elim);intro D C s' H' m I' q hn hC hsz;exact⟨m,hn,λh' sb=>⟨.ref D,H',I'.Cc hsz I2 hC sb,rfl,q⟩⟩
theorem ZG{jP px:Pos}{wi:TI}{i:Nat}(S:cj X scope N' c7 cl)(hc:X.calm=true)(hi:PI X tg iter wi)(hg:∀pins C s H fp,PG (c8 X pins scope N' cl C s H fp) tg g)(ht:∀pins C s H fp,iO (c8 X pins scope N' cl C s H fp) ifs tc)(he:∀pins C s H fp,PE (c8 X pins scope N' cl C s H fp) elt te)(hs:∀x,foldedSetIterable iter X.env x=pure x)(hN:X.Nd)(mI:X.N[i]?=some x)(hx:Loc X.env.scope x)(hf:X.fn x=true\/X.env.scope.names.lookup x=some .local) :
  PS X (.Assign [.Name x px] (.ListComp elt [⟨tg,iter,ifs,0⟩] scope pos) jP) (rE (Cm wi c7 N'.length g tc te) (X9 i)):=by
 intro pins s Z H D I h;have nA:∃b,swapsWith (.ListComp elt [⟨tg,iter,ifs,0⟩] scope pos) (some (.Name x px)) jP.line X.env=pure b:=⟨_,rfl⟩
 obtain⟨b,nA⟩:=nA;cases b with
 |false=>exact CH hN mI hx (IX S hc hi hg ht he hs) nA hf pins s Z H D I h
 |true =>
  rw[exec_Assign_Name_used _ _ _ _ nA];refine ae (cP (ae ?_));refine ae (aU (de (use:=some (assign (.Name x px) X.env)) (Q:=λ_ s'=>SP X pins D .next s') rfl hs S.lZ S.kind S.names
   (cq (hi pins s Z H _ I h) λxv bp cC=>cq cC λpF ee fG=>?_)) (λ_ s' hq=>aj (aj hq)) λ_ _ e=>e)
  obtain⟨it,fp,tn,J,H2,e,I2,T,iD,f2,W,⟨m0,w0⟩,turn⟩:=fG;subst e;refine Hh (Hf (xx:=λ_ _ _ _ _=>False) (Q:=λv H1=>X9 i v Z H1 D.nx) (RR:=λacc C=>compPost (model X.prog X.w) X.A X.xe (some (assign (.Name x px) X.env)) (λ_ s'=>SP X pins D .next s') acc C) S hc (λC s H=>hg pins C s H fp) (λC s H=>ht pins C s H fp) (λC s H=>he pins C s H fp) I2 T iD f2 w0 turn ?_ λ_ _ _ _ _ z=>z.elim);intro Dl C s' H' m I' q hn hC hsz;refine mV (BC I' hN mI hx (v:=.ref Dl) rfl (λs3 I3 ⟨a,sb,ha⟩=>?_) hf);have zC:C≠a:=by
   obtain⟨f0,f1,f2,f3,f4,f5⟩:=I2.Z2 (b:=C) (H':=H') hsz hC;rcases ha with z|z
   ·rw[z];exact f1
   ·exact λz'=>f4 _ _ z z'.symm
  obtain⟨f0,f1,f2,f3,f4,f5⟩:=I2.Z2 (b:=C) (H':=H') hsz hC;refine⟨m,hn.sameBut sb zC,λh3 yp=>⟨_,H',I3.turned (t':=s3.toks) (λb o hb e=>yp.extBut b o hb e) f0 f1 f3 f4 f5,q⟩⟩
end
end L2
namespace HT
open PySem PyProof.Rows
section
variable{prog:Program}{w:World}{A:Around}{E:Value->Shared->Prop}{s:Shared}
theorem Rt{t b:Addr}{ws:List Value}{Q:Value->Shared->Prop}(ht:IsTup s.heap t #[])(hb:IsTup s.heap b ws.toArray)(h1:Q (.ref b) s):wpAny (model prog w) A (binaryOp .Add (.ref t) (.ref b)) Q E s:=by
 obtain⟨⟨cls,dd,data,sl⟩,ho,hc,n,hd⟩:=id ht;obtain⟨⟨uz,oJ,data2,jZ⟩,jS,ow,n2,hd2⟩:=id hb;simp only at hc hd ow hd2;subst hc hd ow hd2;exact concat_meets ⟨_,ho,rfl⟩ ⟨_,jS,rfl⟩ iA kQ gN gE (gi _ _)
   (tuple_addW0 t b #[] ws.toArray n n2 dd oJ sl jZ rfl) ⟨ho,jS,h1⟩
theorem Yp{t sl:Addr}{items:Array Value}{vl vu:Value}{lo hi:Option Int}{Q:Value->Shared->Prop}(ht:IsTup s.heap t items)(hs:s.heap.IsSliceOf sl vl vu .none)(pl:IsPart vl lo)(pu:IsPart vu hi)(hw:dG items.size 0 lo=0/\dG items.size items.size hi=items.size)(h:Q (.ref t) s):wpAny (model prog w) A (getItem (.ref t) (.ref sl)) Q E s:=by
 obtain⟨os,pH,ou,tT⟩:=id hs;have zr:s.TypeIs (.ref sl) "slice":=⟨os,pH,ou⟩
 unfold getItem
 try with_reducible refine bq ?_
 refine ae (wpAny_sequenceKey ht.typeIs ∅ ?_);refine ae (eT (name:=Str.ofString "__getitem__") ht.typeIs bI
  (bV bI ht.typeIs entry_tuple_getitem ?_ (args_tuple_getitem _ _)))
 show wpAny _ _ (Builtin.Tuple.tupleItemsOf (.ref t) >>= _) _ _ s;refine ae (tupleItemsOf_ ht ?_);refine ae (dB zr ?_);refine ae (T7 hs pl pu ?_);have yK:((((dG items.size 0 lo:Nat):Int)==0&&(1:Int)==1&&(dG items.size items.size hi-dG items.size 0 lo)==items.size)=true):=by
  simp_all
 show wpAny _ _ (if(((dG items.size 0 lo:Nat):Int)==0&&(1:Int)==1&&(dG items.size items.size hi-dG items.size 0 lo)==items.size)=true then _ else _) _ _ s;rw[aN yK];refine ae (ae (dB ht.typeIs (aj ?_)))
 first
  |exact wpAny_bind (wpAny_rule (wpAny_bind (wpAny_pure ⟨_,rfl,wpAny_pure h⟩)))
  |exact wpAny_bind (wpAny_rule (wpAny_pure ⟨_,rfl,wpAny_pure h⟩))
  |exact wpAny_bind (wpAny_rule (wpAny_bind (wpAny_pure (wpAny_pure ⟨_,rfl,wpAny_pure h⟩))))
end
end HT
namespace L2
open PySem PySem.Spec PyProof.Rows
section
variable{X:Cx}
def XX(K:PySem.W.Frag):R2:=λx y H Q=>∃a b xs ys,x=.ref a/\y=.ref b/\gY K H a xs/\gY K H b ys/\xs.length+ys.length<=sizeLine /\
 (xs=[]->Q (.ref b) H)/\(ys=[]->Q (.ref a) H)/\(∀p,H p=none->Q (.ref p) (upd H p (.tup (xs++ys))))
theorem Sg:fo X (binaryOp .Add) (XX X.K):=by
 intro pins s Z H x y v u Q I rx ry h;obtain⟨a,b,xs,ys,rfl,rfl,ha,hb,hz,q0,q1,q2⟩:=h;by_cases hx:xs=[]
 ·subst hx;cases rx;cases ry;obtain⟨aX,r1,p1,_⟩:=I.tuple ha;obtain⟨lL,r2,p2,_⟩:=I.tuple hb;cases r1;exact HT.Rt p1 p2 ⟨.ref b,H,I,rfl,q0 rfl⟩
 ·exact P' pins s Z H _ _ v u Q I rx ry ⟨a,b,xs,ys,rfl,rfl,ha,hb,hx,hz,q1,λ_=>q2⟩
def VY(K:PySem.W.Frag):V->Option Int->Option Int->Hp->VK->Prop:=λx lo hi H Q=>∃a xs,x=.ref a/\gY K H a xs /\
 (U9 xs lo hi=xs->Q (.ref a) H)/\∀p,H p=none->Q (.ref p) (upd H p (.tup (U9 xs lo hi)))
theorem QR:vq X (VY X.K):=by
 intro pins s Z H x v vl vu lo hi sl Q I rx hs pl pu h;obtain⟨a,xs,rfl,hx,q0,q⟩:=h;by_cases hw:HT.dG xs.length 0 lo=0/\HT.dG xs.length xs.length hi=xs.length
 ·cases rx;obtain⟨aX,r,ht,hz⟩:=I.tuple hx;have hlen:aX.toArray.size=xs.length:=by exact r.length.symm
  refine⟨"tuple",_,bI.lookup,ht.typeIs,?_⟩;exact HT.Yp ht hs pl pu (by rw[hlen];exact hw) ⟨.ref a,H,I,rfl,q0 (by unfold U9;simp_all)⟩
 ·exact Ou pins s Z H _ v vl vu lo hi sl Q I rx hs pl pu ⟨a,xs,rfl,hx,hw,q⟩
theorem Zq:j8 X (.builtin "isinstance") (λxs H Q=>∃x t c b,xs=[x,.ty c]/\gs X.K H x t/\PySem.W.kitOne X.K t (.type c)=some b/\Q (.bl b) H):=by
 intro pins s Z H xs us Q I r h;obtain⟨x,t,c,b,rfl,hT,hk,q⟩:=h;obtain⟨u,w',rfl,ru,eW⟩:=vals2 r;cases (show w'=Value.type c from eW);exact a36 I ru hT hk λtk=>⟨.bl b,H,I.tok tk,rfl,q⟩
theorem a58(hc:X.calm=true):j8 X (.builtin "all") (λxs H Q=>∃(a:Addr) (bs:List Bool),xs=[.ref a]/\eQ X.K H a (bs.map V.bl)/\Q (.bl (bs.all id)) H):=by
 intro pins s Z H xs us Q I r h;obtain⟨a,bs,rfl,ha,q⟩:=h;obtain⟨u,rfl,ru⟩:=vals1 r;cases ru;obtain⟨aX,rv,p,hz⟩:=I.list ha;refine call_all_walk ?_;refine hJ p.isList ?_;have fK:a≠s.heap.objs.size:=by
  obtain⟨o,e,_⟩:=id p.isList;exact aJ (az e)
 have hl:=rv.length;rw[av] at hl;refine⟨s.heap.objs.size,_,_,_,_,_,λi=>bs.getD i true,rfl,Walks.list (A:=X.A.in1) (I.ok.hd hc) _ a fK aX.toArray,⟨⟨_,ax _ rfl,rfl,rfl⟩,?_⟩,?_,λh' tk k=>?_⟩
 ·obtain⟨o,e,q1⟩:=id p.isList;exact⟨o,ai _ e,q1⟩
 ·intro i v s' Q' E' hP hQ;have hv:aX[i]?=some v:=by simpa using hP
  have hi:i<bs.length:=by rw[hl];exact(ao.mp hv).1
  obtain⟨u',tD,yq⟩:=rv.get (i:=i) (x:=V.bl bs[i]) (by rw[ah,ak hi];rfl);rw[hv] at tD;cases tD;cases (show v=Value.bool bs[i] from yq);refine cv ?_;have:bs.getD i true=bs[i]:=by simp[List.getD,hi]
  dsimp only at hQ;rw[this] at hQ;exact hQ
 ·have e1:(List.range aX.toArray.size).all (λi=>bs.getD i true)=bs.all id:=by
   rw[aP,<- hl];rw[bh];simp only[List.all_eq_true,List.mem_range,id];constructor
   ·intro hh x hx;obtain⟨i,hi,rfl⟩:=cU.mp hx;have:=hh i hi;simpa[List.getD,hi] using this
   ·intro hh i hi;have:=hh bs[i] (eX hi);simpa[List.getD,hi] using this
  rw[e1];exact ⟨.bl (bs.all id),H,I.kept (t':=tk) λb o e=>k b o (by
   intro hb;have:b=s.heap.objs.size:=by simpa using hb
   exact absurd (az e) (by rw [this];exact bD _)) (ai _ e),rfl,q⟩
end
end L2
namespace HT
open PySem PyProof.Rows
end HT
namespace L2
open PySem PySem.Spec PyProof.Rows
variable{X:Cx}{pos p:Pos}{w:World}{H H':Hp}{Z:St}{s s':Shared}{B:Heap}{ea C:Addr}{a0:Value}{ta:TA}
theorem j4.get{P:Program}{h:Heap}{a:Addr}:∀{o:HO},j4 P w H h a o->∃ob,h.get? a=some ob
 |.lst _,x=>by obtain⟨_,_,_,_,e⟩:=x;exact⟨_,e⟩
 |.tup _,x=>by obtain⟨_,_,_,o,e,_⟩:=x;exact⟨o,e⟩
 |.dK _,x=>by obtain⟨_,_,_,_,o,es,ep,e,_⟩:=x;exact⟨o,e⟩
 |.dT _,x=>by obtain⟨_,_,_,_,o,es,ep,e,_⟩:=x;exact⟨o,e⟩
 |.set _ _,x=>by obtain⟨o,es,ep,t,e,_⟩:=x;exact⟨o,e⟩
 |.ins _ _ _,x=>by obtain⟨_,_,_,e,_⟩:=x;exact⟨_,e⟩
 |.own _,x=>x
 |.xd _,x=>by obtain⟨mA,n,_⟩:=x;obtain⟨od,e,_⟩:=GQ n;exact⟨od,e⟩
 |.kU _ _,x=>by obtain⟨_,_,_,e⟩:=x;exact⟨_,e⟩
 |.jb _ _,x=>⟨_,x.1⟩
 |.og _,x=>⟨_,x⟩
 |.met _ _,x=>⟨_,x⟩
 |.ext _,x=>x.2.1
def BU(H':Hp)(h0:Heap)(l:List Env)(e:Value)(C:Addr)(h:Heap):Prop :=
 ∃(ea:Addr) (a0:Value) (B:Heap),e=.ref ea/\Heap.FlyingW B l ea (.ref C) a0 h/\∀b o,h.get? b=some o->b∉fm l->(H' b≠none\/∃o0,h0.get? b=some o0)->B.get? b=some o
def gw(P:Program)(w:World):mn:=λouter H s E e s'=>∃(C:Addr) (H':Hp),s'.os=s.os/\AllBare s'.gens/\Un (fm outer) [] H H' s.heap s'.heap/\fA P w H' s'.heap/\BU H' s.heap outer e C s'.heap/\E (.ref C) none H'
section
variable{pins:List (Addr×Obj)}{E:XK}{e:Value}
theorem Inv.flew(I:Inv X pins Z H s)(h:gw X.prog X.w X.stack H s E e s'):∃C H',Inv X pins Z H' s'/\BU H' s.heap X.stack e C s'.heap/\E (.ref C) none H':=by
 obtain⟨C,H',ho,hb,hu,bz,fl,hE⟩:=h;exact⟨C,H',I.BX (ch:=[]) ho hu bz hb (by simp),fl,hE⟩
theorem xh(I:Inv X pins Z H s){b:Addr}(hb:b∈fm X.stack):∃o,s.heap.get? b=some o/\∀vs,o.data≠.fields vs:=(I.stack.mem hb).2
theorem Ca{mM:Heap}(I:Inv X pins Z H s)(eP:X.stack=X.env::X.outer)(hex:X.ex=[])(hf:X.env.frame=some X.env.locals)(qE:∀b o,s.heap.get? b=some o->b∉fm X.stack->(H b≠none\/∃o0,X.cV.heap.get? b=some o0)->B.get? b=some o)(sl:∀b∈fm X.stack,∀o,s.heap.get? b=some o->∃sl,mM.get? b=some { o with slots:=sl })(fw:Heap.FlyingW B X.outer ea (.ref C) a0 mM)(hE:E (.ref C) none H):gw X.prog X.w X.outer X.iK X.cV E (.ref ea) { s with heap:=mM }:=by
 have yP:∀b,b∈fm X.outer->b∈fm X.stack:=λb hb=>by rw[eP];unfold fm at hb ⊢;rw[dO,hf];exact bJ _ hb
 have sQ:∀b o,X.cV.heap.get? b=some o->b∉fm X.outer->b∉fm X.stack:=λb o e hb z=>by
  rcases aC.mp (I.T6 b z) with z|z
  ·exact absurd (az e) (by rw[z];exact KH.mpr I.ok.above)
  ·exact hb z
 have ni:∀b u,H b=some u->b∉fm X.stack:=λb u e z=>by rw[I.xf b z] at e;cases e
 have kept:∀b o,s.heap.get? b=some o->b∉fm X.stack->(H b≠none\/∃o0,X.cV.heap.get? b=some o0)->mM.get? b=some o:=λb o e n q=>fw.1 b o (qE b o e n q);have sT:∀b,b∉X.ex:=λb=>by rw[hex];simp
 refine⟨C,H,I.os,I.bare,⟨?_,?_,?_,?_,I.base.gS,I.base.gH,I.base.gT⟩,?_,⟨ea,a0,B,rfl,fw,?_⟩,hE⟩
 ·exact λb o e n1 n2 _=>kept b o (I.base.keep b o e n1 n2 (sT b)) (sQ b o e n2) (.inr ⟨o,e⟩)
 ·intro b o e n1 n2 _;obtain⟨Lc,e1⟩:=I.base.slot b o e n1 n2 (sT b);obtain⟨jZ,e2⟩:=sl b (yP b n2) _ e1;exact⟨jZ,e2⟩
 ·exact λb o e n1 _=>I.base.free b o e n1 (sT b)
 ·intro b o e _;obtain⟨o1,e1⟩:=I.base.there b o e (sT b);by_cases hb:b∈fm X.stack
  ·obtain⟨jZ,e2⟩:=sl b hb _ e1;exact⟨_,e2⟩
  ·exact⟨o1,kept b o1 e1 hb (.inr ⟨o,e⟩)⟩
 ·intro a o e;exact (I.bz a o e).A7 (λb u hb q=>by
   have iN:∃v,H b=some v:=by
    rcases hb with rfl|hb
    ·exact⟨o,e⟩
    ·exact⟨_,hb⟩
   obtain⟨v,hv⟩:=iN;exact kept b u q (ni b v hv) (.inl (by rw [hv];simp))) (λb hb=>hb) (λb xs hb=>hb)
 ·intro b o e n q;rcases q with q|⟨o0,q⟩
  ·obtain⟨v,hv⟩:=mW.mp q;obtain⟨o1,e1⟩:=(I.bz b v hv).get;have z:=qE b o1 e1 (ni b v hv) (.inl (by rw[hv];simp));have z':=fw.1 b o1 z;have:o=o1:=by
    have e':mM.get? b=some o:=e;rw[z'] at e';exact(aD e').symm
   subst this;exact z
  ·obtain⟨o1,e1⟩:=I.base.there b o0 q (sT b);have z:=qE b o1 e1 (sQ b o0 q n) (.inr ⟨o0,q⟩);have z':=fw.1 b o1 z;have:o=o1:=by
    have e':mM.get? b=some o:=e;rw[z'] at e';exact(aD e').symm
   subst this;exact z
theorem ZW{h0:Heap}{Ex:Value->Shared->Prop}(I:Inv X pins Z H s)(fl:BU H h0 X.stack e C s.heap)(NC:∀b o,X.cV.heap.get? b=some o->∃o',h0.get? b=some o')(eP:X.stack=X.env::X.outer)(hex:X.ex=[])(hf:X.env.frame=some X.env.locals)(hE:E (.ref C) none H):wpAny (model X.prog X.w) X.A (leaving X.env e) (λ_ nr=>gw X.prog X.w X.outer X.iK X.cV E e nr) Ex s:=by
 obtain⟨ea,a0,B,rfl,fw,hB⟩:=fl;rw[eP] at fw;refine wpAny_leaves_onW (by rw[I.ok.frames,eP]) hf fw λmM wB us=>?_;refine Ca I eP hex hf (λb o e n q=>hB b o e n (q.imp id λ⟨o0,q⟩=>NC b o0 q)) (λb hb o e=>?_) wB hE;obtain⟨o1,e1,nf⟩:=xh I hb;rw[e] at e1;cases e1;exact us b o e nf
theorem YO{h':Heap}{vs:List Value}{Ex:Value->Shared->Prop}(I:Inv X pins Z H s)(hx:Heap.MadeExcOf s.heap h' ea (.ref C) vs)(eP:X.stack=X.env::X.outer)(hex:X.ex=[])(hf:X.env.frame=some X.env.locals)(hE:E (.ref C) none H):wpAny (model X.prog X.w) X.A (leaving X.env (.ref ea)) (λ_ nr=>gw X.prog X.w X.outer X.iK X.cV E (.ref ea) nr) Ex { s with heap:=h' }:=by
 have qO:=I.stack;rw[eP] at qO;have lQ:∀env∈(X.env::X.outer),∀b,env.frame=some b->b∈fm X.stack:=λenv he b hb=>by rw[eP];exact jk.mpr ⟨env,he,hb⟩
 refine wpAny_leaves_madeW (s:={ s with heap:=h' }) (base:=PySem.W.hideAll s.heap (fm X.stack)) (h:=s.heap) (by rw[I.ok.frames,eP]) hf (λb o q=>KC _ q) (PySem.W.funFrames_hide qO lQ) hx λmM t fw _ _ us=>?_;refine(show gw X.prog X.w X.outer X.iK X.cV E (.ref ea) { s with heap:=mM } from Ca I eP hex hf (λb o e n _=>Dk _ e n) (λb hb o e=>?_) fw hE);obtain⟨o1,e1,nf⟩:=xh I hb;rw[e] at e1;cases e1;exact us b o (hx.keeps b o e) nf
theorem a73{l:List Env}{h0 h h1:Heap}{Pg:Program}(u:Un (fm l) [] H H' h0 h)(ok:fA Pg w H' h)(hB:∀b o,h.get? b=some o->b∉fm l->(H' b≠none\/∃o0,h0.get? b=some o0)->B.get? b=some o)(st:B.StaysIn h1)(us:h.UpToSlots h1)(Ei:∀b∈fm l,H' b=none/\∃o,h.get? b=some o/\∀vs,o.data≠.fields vs):Un (fm l) [] H H' h0 h1/\fA Pg w H' h1/\∀b o,h1.get? b=some o->b∉fm l->(H' b≠none\/∃o0,h0.get? b=some o0)->B.get? b=some o:=by
 have ni:∀b u,H' b=some u->b∉fm l:=λb u e z=>by rw[(Ei b z).1] at e;cases e
 have kept:∀b o,h.get? b=some o->b∉fm l->(H' b≠none\/∃o0,h0.get? b=some o0)->h1.get? b=some o:=λb o e n q=>st b o (hB b o e n q);have EK:∀b∈fm l,∀o,h.get? b=some o->∃sl,h1.get? b=some { o with slots:=sl }:=λb hb o e=>by
  obtain⟨_,o1,e1,nf⟩:=Ei b hb;rw[e] at e1;cases e1;exact us b o e nf
 refine⟨⟨?_,?_,u.free,?_,u.gS,u.gH,u.gT⟩,?_,?_⟩
 ·exact λb o e n1 n2 n3=>kept b o (u.keep b o e n1 n2 n3) n2 (.inr ⟨o,e⟩)
 ·intro b o e n1 n2 n3;obtain⟨Lc,e1⟩:=u.slot b o e n1 n2 n3;obtain⟨jZ,e2⟩:=EK b n2 _ e1;exact⟨jZ,e2⟩
 ·intro b o e n;obtain⟨o1,e1⟩:=u.there b o e n;by_cases hb:b∈fm l
  ·obtain⟨jZ,e2⟩:=EK b hb _ e1;exact⟨_,e2⟩
  ·exact⟨o1,kept b o1 e1 hb (.inr ⟨o,e⟩)⟩
 ·intro a o e;exact (ok a o e).A7 (λb u hb q=>by
   have iN:∃v,H' b=some v:=by
    rcases hb with rfl|hb
    ·exact⟨o,e⟩
    ·exact⟨_,hb⟩
   obtain⟨v,hv⟩:=iN;exact kept b u q (ni b v hv) (.inl (by rw [hv];simp))) (λb hb=>hb) (λb xs hb=>hb)
 ·intro b o e n q;have:∃o1,h.get? b=some o1:=by
   rcases q with q|⟨o0,q⟩
   ·obtain⟨v,hv⟩:=mW.mp q;exact(ok b v hv).get
   ·exact u.there b o0 q (by simp)
  obtain⟨o1,e1⟩:=this;have z:=hB b o1 e1 n q;rw[st b o1 z] at e;cases e;exact z
structure Lies(X:Cx)(H H':Hp)(s:Shared)(B:Heap)(ea C:Addr)(a0:Value)(s':Shared):Prop where
 os:s'.os=s.os
 bare:AllBare s'.gens
 un:Un (fm X.stack) [] H H' s.heap s'.heap
 bz:fA X.prog X.w H' s'.heap
 qE:∀b o,s'.heap.get? b=some o->b∉fm X.stack->(H' b≠none\/∃o0,s.heap.get? b=some o0)->B.get? b=some o
theorem Lies.inv(I:Inv X pins Z H s)(l:Lies X H H' s B ea C a0 s'):Inv X pins Z H' s':=I.BX (ch:=[]) l.os l.un l.bz l.bare (by simp)
theorem leave_held{Ex:Value->Shared->Prop}(I:Inv X pins Z H s)(l:Lies X H H' s B ea C a0 s')(hh:Heap.HeldW B X.stack ea (.ref C) a0 X.env.locals s'.heap)(eP:X.stack=X.env::X.outer)(hex:X.ex=[])(hf:X.env.frame=some X.env.locals)(hE:E (.ref C) none H'):wpAny (model X.prog X.w) X.A (leaving X.env (.ref ea)) (λ_ nr=>gw X.prog X.w X.outer X.iK X.cV E (.ref ea) nr) Ex s':=by
 have J:=l.inv I;have zd:=hh;rw[eP] at zd;refine ae (wpAny_noteFrame_againW hf zd.2.2.2 ?_);refine wpAny_landsW zd λmM fl us=>?_;obtain⟨k1,k2,⟨_,_,k3⟩,k4⟩:=fl;refine Ca J eP hex hf (λb o e n q=>l.qE b o e n (q.imp id λ⟨o0,q⟩=>I.base.there b o0 q (by rw[hex];simp))) (λb hb o e=>?_) ⟨k1,k2,k3,k4⟩ hE;obtain⟨o1,e1,nf⟩:=xh J hb;rw[e] at e1;cases e1;exact us b o e nf
def wU(X:Cx)(Ξ:XK):Prop:=∀(pins:List (Addr×Obj)) (Z:St) (H:Hp) (s:Shared) (h':Heap) (ea C:Addr) (vs:List Value),Inv X pins Z H s->Heap.MadeExcOf s.heap h' ea (.ref C) vs->Ξ (.ref C) none H->X.xe (.ref ea) { s with heap:=h' }
def uO(X:Cx)(Ξ:XK):Prop:=∀(pins:List (Addr×Obj)) (Z:St) (H H':Hp) (s s':Shared) (B:Heap) (ea C:Addr) (a0:Value),Inv X pins Z H s->Lies X H H' s B ea C a0 s'->Heap.HeldW B X.stack ea (.ref C) a0 X.env.locals s'.heap->Ξ (.ref C) none H'->X.xe (.ref ea) s'
def OJ(C:Addr)(Ξ:XK)(t:TA):TS:=λ_ Z H=>t Z H λvs H1=>vs.length<=sizeLine/\Ξ (.ref C) none H1
theorem Sy{x:Str}{B newId fV:String}{bm:List Value}{np dU:Pos}{jc:Expr}{rest:List Expr}{t:TA}{Ξ:XK}(hc:X.calm=true)(O:OwnCls x C bm newId X.mg X.base)(FB:ExcBaseFacts B newId fV bm)(hg:Gl X x)(ha:PA X (jc::rest) t)(hr:wU X Ξ)(he:starEach (jc::rest) X.env=(false,eval jc X.env)::starEach rest X.env)(eE:(backTo dU (starEach rest X.env)).any (·.1)=false)(hd:(x==("__debug__":Str))=false) :
  PS X (.Raise (some (.Call (.Name x np) (jc::rest) [] dU)) none pos) (OJ C Ξ t):=by
 intro pins s Z H D I h;obtain⟨tl,N,nm,q,bs,hdct,sn,sub,ab,col,dd,k0,k1,k2,k3,k5,mN,hC,hN,wm,T⟩:=O.obj;refine wpAny_Raise_call_subT (C:=C) (nm:=nm) (q:=q) (N:=N) (bs:=bs) (bm:=tl) (hdct:=hdct) (sn:=sn) (sub:=sub) (ab:=ab) (col:=col) (dd:=dd) (k0:=k0) (k1:=k1) (k2:=k2) (k3:=k3) (k5:=k5)
  FB (mN:=mN) (T.hasType FB.hasBase) (I.ok.hd hc) (by rw[he];show(false||(backTo dU (starEach rest X.env)).any (·.1))=false;rw[eE];rfl) wm (N9 I hg O.bound ⟨rfl,?_⟩ hd)
 have h':=ha dU pins s Z H _ I h;rw[he] at h' ⊢;refine jN (aU h' (λvs ee fG=>?_) λ_ _ y=>y);obtain⟨ws,H1,I1,rv,hz,hE⟩:=fG;exact⟨rfl,by rw[<- rv.length];exact hz,I1.bk _ _ hC,hN.keeps I1.bk,T.keeps I1.bk,λh2 ea hm=>hr pins Z H1 ee h2 ea C vs I1 hm hE⟩
def V4(X:Cx)(pins:List (Addr×Obj))(xe:Value->Shared->Prop)(o:Option St:=none):Cx:={ X with pn:=X.pn++pins,xe:=xe,sg:=o }
def C9(X:Cx)(ea:Addr):Cx:={ X with A:=X.A.mark (some (.ref ea)),calm:=false,xe:=λ_ _=>False,sg:=none }
theorem Inv.Wr{xe:Value->Shared->Prop}{o:Option St}(ho:∀τ,o=some τ->Z=τ)(I:Inv X pins Z H s):Inv (V4 X pins xe o) [] Z H s :=
 ⟨⟨I.ok.mod,I.ok.kind,I.ok.glob,I.ok.blt,I.ok.above,I.ok.inj,I.ok.has,I.ok.fI,I.ok.hd,I.ok.frames,I.ok.ph,I.ok.ui,I.ok.bs,I.ok.mf,I.ok.jq,I.ok.jV,I.ok.K7,I.ok.mO⟩,I.os,I.bare,I.base,I.loc,I.cell,I.free,I.dS,
  λp hp=>I.pin p (by simpa [V4] using hp),I.bz,I.len,ho⟩
theorem Inv.qj{xe:Value->Shared->Prop}{o:Option St}{eK:List (Addr×Obj)}(hs:X.sg=none)(I:Inv (V4 X pins xe o) eK Z H s):Inv X pins Z H s :=
 ⟨⟨I.ok.mod,I.ok.kind,I.ok.glob,I.ok.blt,I.ok.above,I.ok.inj,I.ok.has,I.ok.fI,I.ok.hd,I.ok.frames,I.ok.ph,I.ok.ui,I.ok.bs,I.ok.mf,I.ok.jq,I.ok.jV,I.ok.K7,I.ok.mO⟩,I.os,I.bare,I.base,I.loc,I.cell,I.free,I.dS,
  λp hp=>I.pin p (dE _ hp),I.bz,I.len,λ_ z=>by simp_all⟩
theorem Inv.Io(I:Inv X pins Z H s):Inv (C9 X ea) pins Z H s :=
 ⟨⟨I.ok.mod,I.ok.kind,I.ok.glob,I.ok.blt,I.ok.above,I.ok.inj,I.ok.has,I.ok.fI,λz=>(by cases z),I.ok.frames,I.ok.ph,I.ok.ui,I.ok.bs,I.ok.mf,I.ok.jq,I.ok.jV,I.ok.K7,I.ok.mO⟩,I.os,I.bare,I.base,I.loc,I.cell,I.free,I.dS,I.pin,I.bz,I.len,λcM z=>absurd (show(none:Option St)=some cM from z) (by simp)⟩
theorem Inv.rX(hs:X.sg=none)(J:X.Ok)(I:Inv (C9 X ea) pins Z H s):Inv X pins Z H s :=
 ⟨J,I.os,I.bare,I.base,I.loc,I.cell,I.free,I.dS,I.pin,I.bz,I.len,λ_ z=>by simp_all⟩
theorem SP.qj{xe:Value->Shared->Prop}{o:Option St}{D:Ends}{f:Flow}(hs:X.sg=none)(h:SP (V4 X pins xe o) [] D f s):SP X pins D f s:=by
 cases f with
 |next=>obtain⟨a,b,I,q⟩:=h;exact⟨a,b,I.qj hs,q⟩
 |brk=>obtain⟨a,b,I,q⟩:=h;exact⟨a,b,I.qj hs,q⟩
 |cont=>obtain⟨a,b,I,q⟩:=h;exact⟨a,b,I.qj hs,q⟩
 |ret u=>obtain⟨v,a,b,I,r,q⟩:=h;exact⟨v,a,b,I.qj hs,r,q⟩
theorem SP.rX{ea:Addr}{D:Ends}{f:Flow}(hs:X.sg=none)(J:X.Ok)(h:SP (C9 X ea) pins D f s):SP X pins D f s:=by
 cases f with
 |next=>obtain⟨a,b,I,q⟩:=h;exact⟨a,b,I.rX hs J,q⟩
 |brk=>obtain⟨a,b,I,q⟩:=h;exact⟨a,b,I.rX hs J,q⟩
 |cont=>obtain⟨a,b,I,q⟩:=h;exact⟨a,b,I.rX hs J,q⟩
 |ret u=>obtain⟨v,a,b,I,r,q⟩:=h;exact⟨v,a,b,I.rX hs J,r,q⟩
def qg(X:Cx)(D:Ends)(cM:St)(C:Addr)(H:Hp):List ExceptHandler->Prop
 |.ExceptHandler (some (.Name x _)) none (uB::oi) _::rest=>Gl X x/\(x==("__debug__":Str))=false/\∃C' b,X.mg x=some (.ref C')/\PySem.W.exmOne X.K (.ref C) (.ref C')=some b /\
   (if b=true then ∃t:TS,(∀ea,iy (C9 X ea) (uB::oi) t)/\t D cM H else qg X D cM C H rest)
 |[]=>∃Ξ:XK,uO X Ξ/\Ξ (.ref C) none H
 |_=>False
end
section
variable{pins:List (Addr×Obj)}{e:Value}{D:Ends}
def xP(X:Cx)(pins:List (Addr×Obj))(D:Ends)(hs:List ExceptHandler):Value->Shared->Prop:=λe bp =>
 wpAny (model X.prog X.w) X.A (noteFrame e X.env) (λ_ ee=>wpAny (model X.prog X.w) X.A (setFlight e none) (λ_ du=>wpAny (model X.prog X.w) X.A (handleBy e X.env hs) (SP X pins D) X.xe du) X.xe ee) X.xe bp
theorem Lies.step{h1:Heap}(I:Inv X pins Z H s)(l:Lies X H H' s B ea C a0 s')(st:B.StaysIn h1)(us:s'.heap.UpToSlots h1):Lies X H H' s B ea C a0 { s' with heap:=h1 }:=by
 have J:=l.inv I;obtain⟨u,ok,ib⟩:=a73 l.un l.bz l.qE st us λb hb=>⟨J.xf b hb,xh J hb⟩
 exact⟨l.os,l.bare,u,ok,ib⟩
theorem Zv{l:List Env}{L:Addr}{cls:Value}{A:Around}{M:Model}{E:Value->Shared->Prop}{Q:Unit->Shared->Prop}(fw:Heap.FlyingW B l ea cls a0 s.heap)(h:∀h',Heap.HeldW B l ea cls a0 L h'->(∀b o,s.heap.get? b=some o->(∀vs,o.data≠.fields vs)->h'.get? b=some o)->Q Unit.unit { s with heap:=h' }):wpAny M A (setFlight (.ref ea) (some L)) Q E s:=by
 obtain⟨f1,f2,f3,oe,vs,T,oT,ts,he,nF,hd,h1,Mj,Et,hT,wq,h3⟩:=fw;have tF:3<ts.size:=(Array.getElem?_eq_some_iff.mp h3).1;have other:∀b,b≠T->(s.heap.update T (Obj.mapFields (·.setIfInBounds 3 ((some L).elim Value.none λf=>rawInt f)))).get? b=s.heap.get? b :=
  λb hb=>bW _ _ (bf hb)
 have jr:∀b o,s.heap.get? b=some o->(∀vs,o.data≠.fields vs)->b≠T:=λb o hb tH q=>by
  rw[q,hT] at hb;injection hb with hb;subst hb;exact tH ts wq
 refine ae (jE he hd h1 ?_);refine dk hT wq tF (h _ ⟨λb o MN=>(other b λq=>by simp_all).trans (f1 b o MN),f2,
  f3.of_keeps λb o hb tH=>⟨o,(other b (jr b o hb tH)).trans hb,rfl⟩,?_⟩ λb o hb tH=>(other b (jr b o hb tH)).trans hb)
 exact⟨oe,vs,T,_,_,(other ea (bf Et)).trans he,nF,hd,h1,Mj,Et,aW _ hT (cX (br wq _)),br wq _,by simp[tF]⟩
theorem GJ{B:Heap}{ea C:Addr}{a0:Value}{cM:St}(mE:X.sg=none)(hf:X.env.frame=some X.env.locals)(tL:cM.length=Z.length)(wc:∀(i:Nat) v,cM[i]?=some (some v)->Z[i]?=some (some v)):∀(hs:List ExceptHandler) (s':Shared),Inv X pins Z H s->Lies X H H' s B ea C a0 s'->Heap.FlyingW B X.stack ea (.ref C) a0 s'.heap->qg X D cM C H' hs ->
  wpAny (model X.prog X.w) X.A (handleBy (.ref ea) X.env hs) (SP X pins D) X.xe s'
 |[],s',I,l,fw,t=>by
  obtain⟨Ξ,hh,hE⟩:=t;refine wpAny_handleBy_nil ?_;obtain⟨f1,f2,f3,oe,vs,T,oT,ts,he,nF,hd,h1,_⟩:=id fw;refine ae (jE he hd h1 ?_);rw[aG (by simp),hf];refine ae (Zv fw λh2 held k=>wpAny_throw ?_);have l2:=l.step I held.1 (λb o hb hn=>⟨o.slots,k b o hb hn⟩);exact hh pins Z H H' s _ B ea C a0 I l2 held hE
 |.ExceptHandler none _ _ _::_,_,_,_,_,t=>t.elim
 |.ExceptHandler (some e) nm bd pos::rest,s',I,l,fw,t=>by
  cases e
  case Name x np =>
   cases nm with
   |some y=>exact t.elim
   |none =>
    cases bd with
    |nil=>exact t.elim
    |cons uB oi =>
     obtain⟨hg,gz,C',b,hm,hx,q⟩:=t;have J:=l.inv I;have JM:Inv (C9 X ea) pins Z H' s':=J.Io;have LT:PySem.W.Looks (model X.prog X.w) s'.heap (typeOf (.ref ea)) (.ref C):=λA Q E s2 k q=>by
      obtain⟨ob,ho,hc⟩:=fw.there;exact wpAny_typeOf_ref (k _ _ ho) (by rw[hc];exact q)
     refine wpAny_handleBy_cons (codeAny_handlers_test ?_) (by intro z;cases z);refine N9 (X:=C9 X ea) JM hg hm ?_ gz;refine(PySem.W.exm_one (M:=model X.prog X.w) J.fS LT hx).here ?_;cases b with
     |false =>
      exact GJ mE hf tL wc rest s' I l fw q
     |true =>
      obtain⟨t,ht,hq⟩:=q;refine codeAny_handlers_suite ?_;refine wpAny_setFlight_noneW fw.1 fw.2.2.1 fw.2.2.2.at λh2 k1 k2 k3 k4=>?_;have l2:=l.step I k1 (λb o hb hn=>⟨o.slots,k4 b o hb hn⟩);have J2:=l2.inv I;have J3:Inv (C9 X ea) pins cM H' { s' with heap:=h2 }:=(Inv.weak mE J2 tL wc).Io;refine aU (ht ea pins _ _ H' D J3 hq) (λf s2 hf=>hf.rX mE I.ok) λ_ _ z=>z.elim
  all_goals exact t.elim
theorem Si{hs:List ExceptHandler}{Ξ:XK}{o:Option St}{cM:St}(mE:X.sg=none)(eP:X.stack=X.env::X.outer)(hf:X.env.frame=some X.env.locals)(yJ:∀Z:St,Z.length=X.N.length->(∀τ,o=some τ->Z=τ)->cM.length=Z.length/\∀(i:Nat) v,cM[i]?=some (some v)->Z[i]?=some (some v))(hT:∀C H',Ξ (.ref C) none H'->qg X D cM C H' hs) :
  Passes (gw X.prog X.w) (V4 X pins (xP X pins D hs) o) Ξ:=by
 intro eK Z H s e s' I0 h;have I:Inv X pins Z H s:=I0.qj mE;obtain⟨tL,wc⟩:=yJ Z I.len I0.sg;obtain⟨C,H',ho,hb,hu,bz,⟨ea,a0,B,rfl,fw,hB⟩,hE⟩:=h;have l:Lies X H H' s B ea C a0 s':=⟨ho,hb,hu,bz,hB⟩
 have fw:Heap.FlyingW B X.stack ea (.ref C) a0 s'.heap:=fw;have wB:=fw;rw[eP] at wB;refine wpAny_looks_onW (by rw[I.ok.frames,eP]) hf wB λh1 held us=>?_;have l1:=l.step I held.1 us;refine wpAny_landsW held λh2 fl KO=>?_;have l2:=l1.step I fl.1 KO;rw[<- eP] at fl;exact GJ mE hf tL wc hs _ I l2 fl (hT C H' hE)
theorem XS{hs:List ExceptHandler}{h₀:ExceptHandler}{body:List Stmt}{t:Ends->St->TS}{Ξ:Ends->St->XK}(f:St->Option St)(z:St->St)(hz:∀Z τ,f Z=some τ->Z=τ)(mE:X.sg=none)(hb:∀pins D Z,(∀C H',Ξ D Z (.ref C) none H'->qg X D (z Z) C H' (h₀::hs))->iy (V4 X pins (xP X pins D (h₀::hs)) (f Z)) body (t D Z)) :
  PS X (.Try body (h₀::hs) [] [] pos) (λD Z H=>(∀C H',Ξ D Z (.ref C) none H'->qg X D (z Z) C H' (h₀::hs))/\t D Z D Z H):=by
 intro pins s Z H D I ⟨hT,h⟩;refine wpAny_Try_except (aU (hb pins D Z hT [] s Z H D (I.Wr (hz Z)) h) (λf s1 q=>?_) λe s1 q=>q);have q:=q.qj mE;cases f with
 |next =>
  obtain⟨bT,H',I',q⟩:=q;exact cq (jf ⟨bT,H',I',q⟩) λ_ _ z=>z
 |brk=>exact q
 |cont=>exact q
 |ret u=>exact q
end
def Dg(K:PySem.W.Frag)(a:Addr):It :=
 ⟨λi H=>∃xs x,eQ K H a xs/\xs[i]?=some x,λi H v H'=>∃p x,H p=none/\v=.ref p/\(∀xs,eQ K H a xs->xs[i]?=some x)/\H'=upd H p (.tup [.int i,x]),λi H=>∃xs,eQ K H a xs/\xs.length<=i⟩
theorem Yx{P:Program}{K:PySem.W.Frag}{elts:List Expr}{x1:Nat}{tp:Pos}(a e it:Addr)(Ej:e≠it):Turn P w K (.Tuple elts x1 tp) (Dg K a) [e,it] e (λi h=>(∃old,IsEnum h e it i old)/\h.IsListIter it a i) where
 mem:=by simp
 obj:=λi h st b hb=>by
  obtain⟨⟨old,h1⟩,o,h2,c,d⟩:=st;rcases aC.mp hb with z|z
  ·subst z;exact ⟨_,h1,λv z=>by
    have z':Data.fields _=Data.cell v:=z;cases z'⟩
  ·have z:b=it:=by simpa using z
   subst z;exact⟨o,h2,λv z=>by rw[d] at z;cases z⟩
 keep:=λi h h' st k=>by
  obtain⟨⟨old,h1⟩,h2⟩:=st;exact⟨⟨old,k e (by simp) _ h1⟩,h2.at λo x=>k it (by simp) o x⟩
 item:=by
  intro X hP hw hK hc i pins s Z H E I hf st hg;subst hP hw hK;obtain⟨⟨old,h1⟩,h2⟩:=st;obtain⟨xs,x,hq,hx⟩:=hg;obtain⟨aX,rv,p,hz⟩:=I.list hq;obtain⟨u,hu,ru⟩:=rv.get hx;obtain⟨e0,e1,e2,e3,e4,e5⟩:=hf e (by simp);obtain⟨f0,f1,f2,f3,f4,f5⟩:=hf it (by simp);refine wpAny_pyNext_enum_item h1 h2 p.isList (x:=u) (by simpa using hu) Ej λh' pI zb tE DS oq=>?_;refine⟨_,rfl,wpAny_letOwnedTupleGo_enum pI λue MC gG=>?_⟩;have gG:Heap.SameBut e h' ue:=gG;have elt:e<s.heap.objs.size:=az h1;have kp:∀b o,b≠e->b≠it->s.heap.get? b=some o->ue.get? b=some o:=λb o b1 b2 q=>(gG.2 b b1).trans (oq b o b1 b2 q);have hn:H s.heap.objs.size=none:=I.bz.fresh (au _);have pb:ue.get? s.heap.objs.size=some { cls:=.type "tuple",data:=.seq #[.int i s.toks,u] }:=(gG.2 _ (bw elt)).trans tE;have ne:∀b u',H b=some u'->b≠e/\b≠it:=λb u' q=>And.intro (λ(z:b=e)=>by simp_all) (λ(z:b=it)=>by simp_all);have bz:fA X.prog X.w (upd H s.heap.objs.size (.tup [.int i,x])) ue:=λb o q=>by
   by_cases hb:b=s.heap.objs.size
   ·subst hb;rw[d8] at q;cases q;exact⟨by show 2<=sizeLine;decide,[.int i s.toks,u],.cons ⟨_,rfl⟩ (.cons ru .nil),_,pb,rfl,⟨_,rfl⟩,rfl⟩
   ·rw[b9 hb] at q;refine(I.bz b o q).A7 (λc v hc q'=>?_) (λc q'=>by rw[b9 (d4 q' hn)];exact q') λc ys q'=>by rw[b9 (d4 q' hn)];exact q'
    rcases hc with z|z
    ·subst z;exact kp _ _ (ne _ _ q).1 (ne _ _ q).2 q'
    ·exact kp _ _ (ne _ _ z).1 (ne _ _ z).2 q'
  have I2:Inv X pins Z (upd H s.heap.objs.size (.tup [.int i,x])) { s with heap:=ue,toks:=s.toks+1 }:=by
   refine I.step (g':=s.gens) (d':=s.drawn) (t':=s.toks+1) (ch:=[e,it]) (λb hb=>?_) (λb o _ _ hb q _=>kp b o (λz=>hb (by simp[z])) (λz=>hb (by simp[z])) q) (λb o _ _ hb q _=>⟨o.slots,kp b o (λz=>hb (by simp[z])) (λz=>hb (by simp[z])) q⟩)
    (λb o _ q n=>by rw[b9 (aJ (az q))];exact n) (λb o hb q=>⟨o,kp b o (λz=>hb (by simp[z])) (λz=>hb (by simp[z])) q⟩)
    (λb ys q=>by rw[b9 (d4 q hn)];exact q) (λb o' ys q=>by rw[b9 (d4 q hn)];exact q) (λb ps q=>⟨#[],by rw[b9 (d4 q hn),q];simp⟩) (λm hm=>?_) bz I.bare
   ·rcases aC.mp hb with z|z
    ·subst z;exact⟨e3,e1,e4,e5⟩
    ·have z:b=it:=by simpa using z
     subst z;exact⟨f3,f1,f4,f5⟩
   ·obtain⟨o,es,ep,ho,r⟩:=hm;exact⟨o,es,ep,kp _ o (bf e1) (bf f1) ho,r⟩
  refine⟨.ref s.heap.objs.size,_,I2,rfl,⟨s.heap.objs.size,x,hn,rfl,λys hy=>by rw[I.Bi hy hq];exact hx,rfl⟩,⟨⟨u,by simpa using MC⟩,zb.at λo y=>(gG.2 it Ej.symm).trans y⟩,λb hb=>?_⟩;have iN:b<s.heap.objs.size:=by
   rcases aC.mp hb with z|z
   ·subst z;exact elt
   ·have z:b=it:=by simpa using z
    subst z;obtain⟨o,h2,_⟩:=h2;exact az h2
  rw[b9 (aJ iN)];exact(hf b hb).1
 done:=by
  intro X hP hw hK hc i pins s Z H E I hf st hg;subst hP hw hK;obtain⟨⟨old,h1⟩,h2⟩:=st;obtain⟨xs,hq,hx⟩:=hg;obtain⟨aX,rv,p,hz⟩:=I.list hq;obtain⟨f0,f1,f2,f3,f4,f5⟩:=hf it (by simp);have hl:=rv.length;exact wpAny_pyNext_enum_end (I.ok.hd hc) h1 h2 p.isList (by simp;omega) λh' eb=>⟨rfl,I.turned (t':=s.toks) (λb o hb e=>eb b o hb e) f0 f1 f3 f4 f5⟩
 self:=λ_ _ _ _ _ st h=>by
  obtain⟨⟨old,h1⟩,h2⟩:=st;exact wpAny_pyIter_enum h1 h
theorem Ja{l:Expr}{tp:Pos}{elts:List Expr}{x1:Nat}(hg:Gl X "enumerate")(hm:X.mg "enumerate"=none)(ha:PA X [l] ta)(hs:starEach [l] X.env=[(false,eval l X.env)]) :
  PI X (.Tuple elts x1 tp) (.Call (.Name "enumerate" p) [l] [] pos) (λZ H R=>ta Z H λvs H1=>∃a,vs=[.ref a]/\(∃xs,eQ X.K H1 a xs)/\R (Dg X.K a) H1):=by
 intro pins s Z H R I h;refine Call_ (M3 I hg hm PyProof.Rows.boot_enumerate (bG (cq (ha pos pins s Z H _ I h) λus s1 aZ=>?_) hs rfl));obtain⟨vs,H1,I1,r1,q1⟩:=aZ;obtain⟨a,e,⟨xs,hq⟩,q⟩:=q1;subst e;cases r1 with
 |cons r rr =>
  cases rr;cases r;obtain⟨aX,rv,p,hz⟩:=I1.list hq;refine call_enumerate_list p.isList λh' he hit hsz hk=>wpAny_pyIter_enum he ?_;refine⟨s1.heap.objs.size+1,[s1.heap.objs.size+1,s1.heap.objs.size],_,_,H1,rfl,I1.kept (t':=s1.toks) hk,Yx a _ _ (by simp),⟨⟨_,he⟩,hit⟩,λb hb=>?_,q⟩;have iN:s1.heap.objs.size<=b:=by
   rcases aC.mp hb with z|z
   ·simp_all
   simp_all
  exact I1.Z2 iN (I1.bz.fresh iN)
theorem YN{lo:Int}{acc:Array Value}{n:Nat}(h:ItemsOf (λi v=>∃t,v=.int (lo+i*1) t) acc n):Vals ((List.range n).map λ(k:Nat)=>V.int (lo+k)) acc.toList:=by
 have hl:acc.toList.length=n:=by
  have:=h.1;omega
 have go:∀(m:Nat) (l:List Value),l.length<=n->m+l.length=n->(∀i v,l[i]?=some v->∃t,v=Value.int (lo+((m+i:Nat):Int)) t)->Vals ((List.range' m l.length).map λ(k:Nat)=>V.int (lo+k)) l:=by
  intro m l
  induction l generalizing m with
  |nil=>intro _ _ _;exact .nil
  |cons x r ih =>
   intro h1 h2 h3;refine .cons ?_ (ih (m+1) (by simp at h1;omega) (by simp at h2;omega) λi v hv=>?_)
   ·obtain⟨t,e⟩:=h3 0 x rfl;exact⟨t,by rw[e];simp⟩
   ·obtain⟨t,e⟩:=h3 (i+1) v (by simpa using hv)
    grind
 have:=go 0 acc.toList () () λi v hv=>?_
 ·rw[hl,<- List.range_eq_range'] at this;exact this
 ·have:acc[i]?=some v:=by rw[<- ij];exact hv
  obtain⟨t,e⟩:=h.2 i v this;refine⟨t,?_⟩;rw[e];simp
theorem HX(hc:X.calm=true):j8 X (.type "list") (λxs H Q=>∃a lo hi,xs=[.ref a]/\H a=some (.kU lo hi)/\(-(2 ^ 62)<=lo/\lo<2 ^ 62/\-(2 ^ 62)<=hi/\hi<2 ^ 62/\hi-lo<=100000)/\∀p,H p=none->Q (.ref p) (upd H p (.lst ((List.range (hi-lo).toNat).map λ(k:Nat)=>V.int (lo+k))))):=by
 intro pins s Z H xs us Q I r h;obtain⟨a,lo,hi,rfl,ha,⟨h1,h2,h3,h4,h5⟩,q⟩:=h;obtain⟨t,u,v,ho⟩:=I.bz a _ ha;cases r with
 |cons r rr =>
 cases rr;cases r;have hn:Builtin.Range.rangeSize lo hi 1=((hi-lo).toNat:Nat):=by rw[rangeSize_one];split<;>omega
 refine call_list_range (n:=(hi-lo).toNat) (I.ok.hd hc) ho (small_one h1 h2 h3 h4) hn () λh' iL acc c hk hS iu=>?_;have hp:H s.heap.objs.size=none:=I.bz.fresh (au _);refine⟨.ref _,_,I.laid (a:=s.heap.objs.size) (o:=.lst ((List.range (hi-lo).toNat).map λ(k:Nat)=>V.int (lo+k))) (t':=iL) hk (au _) ⟨?_,acc.toList,c,YN iu,by simpa using hS⟩,rfl,q _ hp⟩;rw[av,List.length_range];have:(hi-lo).toNat<=100000:=by omega
 exact aA this ∅
theorem a12{a:Expr}(hg:Gl X "range")(hm:X.mg "range"=none)(ha:PA X [a] ta)(hs:starEach [a] X.env=[(false,eval a X.env)]):PE X (.Call (.Name "range" p) [a] [] pos) (λZ H Q=>ta Z H λvs H1=>∃j:Int,vs=[.int j]/\∀q,H1 q=none->Q (.ref q) (upd H1 q (.kU 0 j))):=by
 intro pins s Z H Q I h;refine cE (M3 I hg hm boot_range (bG (cq (ha pos pins s Z H _ I h) λus s1 aZ=>?_) hs rfl));obtain⟨vs,H1,I1,r1,q1⟩:=aZ;obtain⟨j,e,q⟩:=q1;subst e;cases r1 with
 |cons r rr =>
  cases rr;obtain⟨t,rfl⟩:=r;exact call_range_1 ⟨.ref s1.heap.objs.size,_,I1.laid (a:=s1.heap.objs.size) (o:=.kU 0 j) (λb o e=>ai _ e) (au _) ⟨_,_,_,ax _ rfl⟩,rfl,q _ (I1.bz.fresh (au _))⟩
theorem a11{a b:Expr}(hg:Gl X "range")(hm:X.mg "range"=none)(ha:PA X [a,b] ta)(hs:starEach [a,b] X.env=[(false,eval a X.env),(false,eval b X.env)])(gG:starEach [b] X.env=[(false,eval b X.env)]):PE X (.Call (.Name "range" p) [a,b] [] pos) (λZ H Q=>ta Z H λvs H1=>∃i j:Int,vs=[.int i,.int j]/\∀q,H1 q=none->Q (.ref q) (upd H1 q (.kU i j))):=by
 intro pins s Z H Q I h;refine cE (M3 I hg hm boot_range (bG (cq (ha pos pins s Z H _ I h) λus s1 aZ=>?_) (by rw[hs,gG]) (by rw[gG];rfl)));obtain⟨vs,H1,I1,r1,q1⟩:=aZ;obtain⟨i,j,e,q⟩:=q1;subst e;cases r1 with
 |cons r rr =>
  cases rr with
  |cons r' rr =>
   cases rr;obtain⟨t,rfl⟩:=r;obtain⟨t',rfl⟩:=r';exact call_range_2 ⟨.ref s1.heap.objs.size,_,I1.laid (a:=s1.heap.objs.size) (o:=.kU i j) (λb o e=>ai _ e) (au _) ⟨_,_,_,ax _ rfl⟩,rfl,q _ (I1.bz.fresh (au _))⟩
def xD(K:PySem.W.Frag)(P:Params)(a:Addr)(kvs:List (Str×V)):Prop :=
 ∃es n,K.lookup a=some ⟨.type "dict",none,.dict es n,#[]⟩/\PySem.W.KeysLit P es.toList/\(a==sysModules)=false/\∀x,A4 (kvs.lookup x) (findBy Value.isStrOf es x)
theorem Vk{kvs:List (Str×V)}:sj X (λx y H Q=>∃a z v,x=.ref a/\xD X.K X.w.params a kvs/\y=.str z/\kvs.lookup z=some v/\Q v H):=by
 intro value slice pins s Z H x y v u Q I rx ry h hs;obtain⟨a,z,d,rfl,⟨es,n,hl,hk,lo,hf⟩,rfl,hz,q⟩:=h;cases rx;obtain⟨t,rfl⟩:=ry;have hm:=PySem.W.mapOf_K (prog:=X.prog) (w:=X.w) I.fS hl hk;have e:=hf z;rw[hz] at e;cases h2:findBy Value.isStrOf es z with
 |none=>rw[h2] at e;exact e.elim
 |some r =>
  rw[h2] at e;exact tail_any hm.typeIs slot_dict_getitem.lookup (wpAny_getItem_of (strKind_is X.prog X.w z t) hm h2 ⟨d,H,I.tok _,e,q⟩) hs
theorem Pu(hu:X.A.units+1<cLine):sj X (λx y H Q=>∃a v,x=.ref a/\Z6 H a y (some v)/\Q v H):=by
 intro value slice pins s Z H x y v u Q I rx ry h hs;obtain⟨a,d,rfl,g,q⟩:=h;cases rx;exact tail_any (Zs I g) slot_dict_getitem.lookup (a51 hu I g ry λw' s3 I3 eW=>⟨d,H,I3,eW,q⟩) hs
end L2
namespace ST
open PySem PyProof.Rows
variable{xs:Array Nat}{i k j n ep:Nat}{t:SetTable}{h h':Heap}{L:Bool}{es:Array (Int×Value)}{x f:Value}{prog:Program}{w:World}{a I b l:Addr}{ks ns:List Int}{A:Around}{E Q:Value->Shared->Prop}{s:Shared}{pl:List Nat}{α:Type}{r:Rd}{items:Array Value}
noncomputable abbrev jD(xs:Array Nat):Prop:=xs.toList.Pairwise (· < ·)
theorem jD.lt(h:jD xs)(tQ:i<k)(hk:k<xs.size):xs.getD i 0<xs.getD k 0:=by
 have:=cQ.mp h i k (by simpa using cH tQ hk) (by simpa using hk) tQ;rw[<- eV (h:=cH tQ hk),<- eV (h:=hk)];exact this
theorem jD.le(h:jD xs)(tQ:i<=k)(hk:k<xs.size):xs.getD i 0<=xs.getD k 0:=by
 rcases Nat.eq_or_lt_of_le tQ with e|e
 ·rw[e];exact au _
 ·exact cT (h.lt e hk)
theorem AW{xs:Array Nat}{j:Nat}(h:jD xs):∀(fuel lo hi:Nat),hi-lo<=fuel->lo<=hi->hi<=xs.size->(∀i,i<lo->xs.getD i 0<j)->(∀i,hi<=i->i<xs.size->j<=xs.getD i 0) ->
  SetTable.below.go xs j fuel lo hi<=xs.size/\(∀i,i<SetTable.below.go xs j fuel lo hi->xs.getD i 0<j)/\∀i,SetTable.below.go xs j fuel lo hi<=i->i<xs.size->j<=xs.getD i 0
 |0,lo,hi,h1,h2,h3,h4,h5=>by
  have:lo=hi:=by omega
  subst this;exact⟨h3,h4,h5⟩
 |fuel+1,lo,hi,h1,h2,h3,h4,h5=>by
  unfold SetTable.below.go;split
  ·have hm:(lo+hi) / 2<xs.size:=by omega
   have em:xs.getD ((lo+hi) / 2) j=xs.getD ((lo+hi) / 2) 0:=by simp[Array.getD,hm]
   dsimp only;rw[em];by_cases hc:xs.getD ((lo+hi) / 2) 0<j
   ·rw[aN hc];exact AW h fuel _ hi () () h3 (λi iu=>fO (h.le () hm) hc) h5
   ·rw[aG hc];exact AW h fuel lo _ () () () h4 λi iu hs=>aA (Nat.le_of_not_lt hc) (h.le iu hs)
  ·have:lo=hi:=by omega
   subst this;exact⟨h3,h4,h5⟩
theorem T2(j:Nat)(h:jD xs):SetTable.below xs j<=xs.size/\(∀i,i<SetTable.below xs j->xs.getD i 0<j)/\∀i,SetTable.below xs j<=i->i<xs.size->j<=xs.getD i 0 :=
 AW h _ 0 _ () () (au _) (λi hi=>absurd hi (Nat.not_lt_zero _)) λi h1 h2=>absurd h2 ()
theorem below_at(h:jD xs)(hi:i<xs.size):SetTable.below xs (xs.getD i 0)=i:=by
 obtain⟨h1,h2,h3⟩:=T2 (xs.getD i 0) h;rcases eI (SetTable.below xs (xs.getD i 0)) i with z|z|z
 ·exact absurd (h3 _ (au _) ()) (Nat.not_le_of_lt (h.lt z hi))
 ·exact z
 ·exact absurd (h2 i z) (bD _)
theorem YD(h:jD xs)(hi:i<xs.size):SetTable.below xs (xs.getD i 0+1)=i+1:=by
 obtain⟨h1,h2,h3⟩:=T2 (xs.getD i 0+1) h;rcases eI (SetTable.below xs (xs.getD i 0+1)) (i+1) with z|z|z
 ·have:=h3 i () hi;omega
 ·exact z
 ·have:=h2 (i+1) z;have:=h.lt (ko i) (k:=i+1) ();omega
theorem YE(h:jD xs):SetTable.below xs 0=0:=by
 obtain⟨_,h2,_⟩:=T2 0 h;rcases Nat.eq_zero_or_pos (SetTable.below xs 0) with z|z
 ·exact z
 ·exact absurd (h2 0 z) (Nat.not_lt_zero _)
theorem getD_mem(hi:i<xs.size):xs[i]?=some (xs.getD i 0):=by simp[Array.getD,hi]
theorem Ze(h:jD t.place)(hs:t.slot j=.empty):j∉t.place.toList:=by
 intro hm;obtain⟨i,hi,e⟩:=cU.mp hm;have iu:i<t.place.size:=by simpa using hi
 have ej:t.place.getD i 0=j:=by rw[<- eV (h:=iu)];simpa using e
 have hb:=below_at h iu;rw[ej] at hb;unfold SetTable.slot at hs;dsimp only at hs;rw[hb,getD_mem iu,ej] at hs;simp at hs
theorem Zb(h:jD xs)(hj:j∉xs.toList):jD (SetTable.insertAt xs (SetTable.below xs j) j):=by
 obtain⟨h1,h2,h3⟩:=T2 j h;show(SetTable.insertAt xs (SetTable.below xs j) j).toList.Pairwise (· < ·);rw[SetTable.toList_insertAt,fe];have tk:∀a∈xs.toList.take (SetTable.below xs j),a<j:=λa ha=>by
  obtain⟨i,hi,e⟩:=cU.mp ha;rw[cy] at hi;have hs:i<xs.size:=by omega
  have:=h2 i ()
  simp_all
 have dp:∀b∈xs.toList.drop (SetTable.below xs j),j<b:=λb hb=>by
  obtain⟨i,hi,e⟩:=cU.mp hb;have hs:SetTable.below xs j+i<xs.size:=by grind
  have:=h3 (SetTable.below xs j+i) () hs;rw[<- eV (h:=hs)] at this;have fK:b≠j:=λz=>hj (by rw[<- z];exact List.mem_of_mem_drop hb);simp at e;omega
 refine⟨h.take,cK.mpr ⟨dp,h.drop⟩,λa ha b hb=>?_⟩;have kI:=tk a ha
 grind
theorem a00(n:Nat):jD (Array.range n):=by
 show(Array.range n).toList.Pairwise (· < ·);rw[Array.toList_range];exact sx
structure Well(L:Bool)(t:SetTable):Prop where
 vU:jD t.place
 An:t.dummies=#[]
 led:t.led=L
theorem Sf(hd:t.dummies=#[])(j:Nat):t.slot j≠.dummy:=by
 unfold SetTable.slot;dsimp only;split
 ·simp
 ·rw[hd];split
  ·rename_i z;simp[SetTable.has] at z
  simp
theorem HP{t:SetTable}(hd:t.dummies=#[]){hashAt:Nat->Int}{h:Int}:∀(fuel:Nat) (p:SetTable.Probe) {j:Nat} {dm:Option Nat},p.dummy=none->SetTable.probe.go t hashAt h fuel p=some (.empty j dm)->t.slot j=.empty/\dm=none
 |0,p,j,dm,_,e=>by simp[SetTable.probe.go] at e
 |fuel+1,p,j,dm,hp,e=>by
  unfold SetTable.probe.go at e;have ad:∀q:SetTable.Probe,q.dummy=none->(t.advance q).dummy=none:=λq hq=>by
   unfold SetTable.advance;split
   ·exact hq
   ·exact hq
  split at e
  ·simp_all
  ·rename_i hs;exact absurd hs (Sf hd _)
  ·split at e
   ·cases e
   ·exact HP hd fuel _ (ad p hp) e
theorem a45(hd:t.dummies=#[]){h:Int}{wd:Bool}(e:t.freeSlot h=some (j,wd)):t.slot j=.empty/\wd=false:=by
 unfold SetTable.freeSlot at e;split at e
 ·rename_i j' dm hp;obtain⟨h1,h2⟩:=HP hd _ _ rfl hp;subst h2;cases e;exact⟨h1,rfl⟩
 ·cases e
theorem L6(h:Well L t)(n:Nat):Well L (t.standIn n):=⟨a00 n,rfl,h.led⟩
theorem Zx{h:Int}(hw:Well L t):Well L (layNew t es h x).2.1/\(layNew t es h x).2.2.1=false:=by
 unfold layNew;split
 ·rename_i slot wd e;obtain⟨h1,h2⟩:=a45 hw.An e;refine⟨?_,h2⟩;have hd:SetTable.has t.dummies slot=false:=by rw[hw.An];rfl
  have w2:Well L (t.put slot).1:=⟨Zb hw.vU (Ze hw.vU h1),by simp only[SetTable.put,hd];exact hw.An,hw.led⟩
  dsimp only;unfold SetTable.orStandIn;split
  ·exact w2
  ·exact L6 w2 _
 ·exact⟨L6 hw _,rfl⟩
theorem a32{mask finger moves:Nat}{led plain:Bool}{hashes:Array Int}{o:Array Nat}(hl:led=L)(e:SetTable.laid mask finger moves led plain hashes=some (t,o)):Well L t:=by
 unfold SetTable.laid at e;cases ho:SetTable.layClean mask hashes with
 |none=>rw[ho] at e;cases e
 |some owner =>
  rw[ho] at e;simp only[Option.bind_eq_bind,Option.bind_some,Option.pure_def,Option.some.injEq,Prod.mk.injEq] at e;obtain⟨rfl,_⟩:=e;refine⟨?_,rfl,hl⟩;show(List.map _ _).toArray.toList.Pairwise (· < ·);rw[List.toList_toArray];have sub:((List.range (mask+1)).filterMap λj=>(owner.getD j none).map (j,·)).map (·.1) |>.Sublist (List.range (mask+1)):=by
   generalize List.range (mask+1)=l
   induction l with
   |nil=>simp
   |cons a r ih =>
    rw[dO];cases owner.getD a none with
    |none=>exact ih.cons a
    |some k=>exact ih.cons_cons a
  exact vL sub sx
theorem aA6(hw:Well L t):Well L (relayAll t es n).2.1:=by
 unfold relayAll;split
 ·rename_i t' order e;dsimp only;split
  ·exact a32 hw.led e
  ·exact L6 hw _
 ·exact L6 hw _
def toI:Value->Int
 |.int k _=>k
 |_=>0
def Led(w:World):Bool:=!(w.params.followText "set-order")
def n6(prog:Program)(w:World)(h:Heap)(a:Addr)(ks:List Int):Prop :=
 ∃o es ep t,h.get? a=some o/\o.ExactSet/\o.data=.set es ep t/\ElemsOf (intKind prog w) es.toList/\(es.toList.map λe=>toI e.2).Perm ks/\ks.Nodup/\es.size<scanBound/\t.fits es.size=true/\Well (Led w) t
theorem n6.at(x:n6 prog w h a ks)(k:∀o,h.get? a=some o->h'.get? a=some o):n6 prog w h' a ks:=by
 obtain⟨o,es,ep,t,e,r⟩:=x;exact⟨o,es,ep,t,k o e,r⟩
theorem wY{e:Int×Value}{es:List (Int×Value)}(h:ElemsOf (intKind prog w) es)(he:e∈es):∃tk,e.2=.int (toI e.2) tk/\e.1=(intKind prog w).hash (toI e.2):=by
 obtain⟨⟨k,h1,h2⟩,_⟩:=h e he;obtain⟨t,ht⟩:=Value.isInt_shape (k:=k) (v:=e.2) h1;refine⟨t,by rw[ht];rfl,?_⟩;rw[h2,ht]
 rfl
theorem Kh{e:Int×Value}{es:List (Int×Value)}(h:ElemsOf (intKind prog w) es)(he:e∈es)(k:Int):(intKind prog w).is k e.2=decide (toI e.2=k):=by
 obtain⟨t,ht,_⟩:=wY h he;rw[ht]
 rfl
theorem n6.mem{a:Addr}{es:List (Int×Value)}(h:ElemsOf (intKind prog w) es)(hp:(es.map λe=>toI e.2).Perm ks)(k:Int):(es.findIdx? λe=>(intKind prog w).is k e.2).isSome=decide (k∈ks):=by
 rw[bh,cJ,<- hp.mem_iff,aE,dY];constructor
 ·rintro⟨i,hi⟩;obtain⟨h1,h2,_⟩:=jB.mp hi;have hm:=eX h1;rw[Kh h hm] at h2;exact⟨_,hm,aQ h2⟩
 ·rintro⟨e,he,rfl⟩;cases hf:es.findIdx? λe'=>(intKind prog w).is (toI e.2) e'.2 with
  |some i=>exact⟨i,rfl⟩
  |none =>
   have:=List.findIdx?_eq_none_iff.mp hf e he;rw[Kh h he] at this;simp at this
def B0(ks:List Int)(k:Int):List Int:=if k∈ks then ks else ks++[k]
theorem Ro(ks:List Int)(k:Int):(B0 ks k).length<=ks.length+1:=by unfold B0;split<;>simp
theorem Fm{k:Int}{tk:Tok}{Q:Bool->Shared->Prop}(hS:n6 prog w s.heap a ks)(hr:ks.length+1<scanBound)(h:∀h' b,Heap.SameBut a s.heap h'->n6 prog w h' a (B0 ks k)->Q b { s with heap:=h' }):wpAny (model prog w) A (setAddHashed a (.int k tk) ((intKind prog w).hash k)) Q E s:=by
 obtain⟨o,es,ep,t,ho,hx,hd,lS,hp,hn,hb,hf,hw⟩:=hS;have hlen:es.size=ks.length:=by rw[<- hp.length_eq];simp
 have kG:(intKind prog w).is k (.int k tk)=true:=dW _ _ _ _;have gv:∀(b:Bool) (s1:Shared) (Q':Unit->Shared->Prop),Q' Unit.unit s1->wpAny (model prog w) A (match b with|true=>rule "set.scan.the-table-gave-way"|false=>pure Unit.unit) Q' E s1:=λb s1 Q' q=>by
  cases b
  ·exact aj q
  ·exact ly q
 refine bq (ae (cw ho hd hf ?_));dsimp only;rw[byScan_of rfl hb lS,aN rfl];refine ae (ae (ly (ae (wpAny_setScan_of kG ho hd hf lS ?_))));have hm:=n6.mem (a:=a) lS hp k;cases mF:es.toList.findIdx? (λe=>(intKind prog w).is k e.2) with
 |some j =>
  have hk:k∈ks:=by simp_all
  refine aj (aj ?_);refine h s.heap _ (Heap.SameBut.refl a s.heap) ?_;unfold B0;rw[aN hk];exact⟨o,es,ep,t,ho,hx,hd,lS,hp,hn,hb,hf,hw⟩
 |none =>
  rw[mF] at hm;have hk:k∉ks:=by simpa using hm.symm
  have p1:=layNew_perm t es ((intKind prog w).hash k) (.int k tk);have f1:=layNew_fits t es ((intKind prog w).hash k) (.int k tk);obtain⟨w1,Du⟩:=Zx (es:=es) (h:=(intKind prog w).hash k) (x:=.int k tk) hw;generalize layNew t es ((intKind prog w).hash k) (.int k tk)=R1 at p1 f1 w1 Du ⊢;obtain⟨gA,t1,wd,NJ⟩:=R1;subst Du;rw[Array.toList_push] at p1;have EL:ElemsOf (intKind prog w) gA.toList:=(lS.push kG rfl).perm p1;have sz1:gA.size=es.size+1:=by rw[<- dP,p1.length_eq];simp
  have k1:(gA.toList.map λe=>toI e.2).Perm (B0 ks k):=by
   unfold B0;rw[aG hk];refine(p1.map _).trans ?_;rw[bB];exact hp.append_right _
  have n1:(B0 ks k).Nodup:=by
   unfold B0;rw[aG hk,dz];exact⟨hn,by simp,λx hx y hy=>by grind⟩
  refine ae (gv _ _ _ ?_);have fin:∀ (t2:SetTable),t2.fits gA.size=true->Well (Led w) t2->wpAny (model prog w) A (do
    storeSet a gA t2
    if(!false&&t2.tooFull)=true then do
      (match(relayAll t2 gA (SetTable.grown gA.size)).2.2 with|true=>rule "set.scan.the-table-gave-way"|false=>pure Unit.unit)
      storeSet a (relayAll t2 gA (SetTable.grown gA.size)).1 (relayAll t2 gA (SetTable.grown gA.size)).2.1
      pure (some true)
     else pure (some true)) (λr s'=>wpAny (model prog w) A (match r with | some added=>pure added | none=>setAddHashedIn a (.int k tk) ((intKind prog w).hash k) 99999) Q E s') E s:=λt2 f2 w2=>by
   have g1:(s.heap.update a (Obj.putSet gA t2)).get? a=some { o with data:=.set gA (ep+1) t2 }:=by
    have:=aW (Obj.putSet gA t2) ho (by rw[putSet_of gA t2 hd];rfl);rw[putSet_of gA t2 hd] at this;exact this
   refine ae (wpAny_storeSet_of ho hd ?_ (fits_of_scanBound ()));have DC:=bZ s.heap a (Obj.putSet gA t2);split
   ·have p2:=relayAll_perm t2 gA (SetTable.grown gA.size);have f3:=relayAll_fits t2 gA (SetTable.grown gA.size);have w3:=aA6 (es:=gA) (n:=SetTable.grown gA.size) w2;generalize relayAll t2 gA (SetTable.grown gA.size)=R2 at p2 f3 w3 ⊢;obtain⟨uj,t3,gv2⟩:=R2;dsimp only at p2 f3 w3 ⊢;have sz2:uj.size=gA.size:=by rw[<- dP,p2.length_eq,dP]
    refine ae (gv _ _ _ ?_);refine ae (wpAny_storeSet_of g1 rfl ?_ (fits_of_scanBound ()));refine aj (aj (h _ _ (DC.trans (bZ _ a _)) ?_));have g2:((s.heap.update a (Obj.putSet gA t2)).update a (Obj.putSet uj t3)).get? a=some { o with data:=.set uj (ep+1+1) t3 }:=by
     have:=aW (Obj.putSet uj t3) g1 (by rfl);exact this
    exact⟨_,uj,_,t3,g2,hx,rfl,EL.perm p2,(p2.map _).trans k1,n1,by omega,f3,w3⟩
   ·exact aj (aj (h _ _ DC ⟨_,gA,_,t2,g1,hx,rfl,EL,k1,n1,by omega,f1 |> λ_=>f2,w2⟩))
  split
  ·refine ae (eR (hashByValue_scannable 8 rfl) ?_);exact fin _ f1 w1
  ·refine ae (aj ?_);exact fin _ f1 w1
theorem ZU:entryFor table "set.__iter__"=some Builtin.«frozenset.__iter__» :=
 xW (id':="frozenset.__iter__") (by kernel_rfl) rfl (by decide +kernel) (by kernel_rfl)
theorem A8:Slot "set_iterator" "__next__" "set_iterator.__next__" :=
 .of (owner:="set_iterator") (n:="__next__") (by rw[typeLookup_type,builtinLookup_eq_fast];kernel_rfl) (by decide +kernel) (by decide +kernel) (by decide +kernel)
  (by first|exact .inl (by decide +kernel)|exact .inr (by decide +kernel)) (by rw[jG];kernel_rfl)
theorem HG:entryFor table "set_iterator.__next__"=some Builtin.«set_iterator.__next__»:=entryFor_of_tree (by kernel_rfl)
theorem HR(a:Value):argsOk "set_iterator.__next__" ⟨[a],[]⟩:=by
 unfold argsOk
 kernel_rfl
theorem HW:Slot "set_iterator" "__iter__" "set_iterator.__iter__" :=
 .of (owner:="set_iterator") (n:="__iter__") (by rw[typeLookup_type,builtinLookup_eq_fast];kernel_rfl) (by decide +kernel) (by decide +kernel) (by decide +kernel)
  (by first|exact .inl (by decide +kernel)|exact .inr (by decide +kernel)) (by rw[jG];kernel_rfl)
theorem Zu:entryFor table "set_iterator.__iter__"=some Builtin.«dict_keyiterator.__iter__» :=
 xW (id':="dict_keyiterator.__iter__") (by kernel_rfl) rfl (by decide +kernel) (by kernel_rfl)
theorem ZN(a:Value):argsOk "set_iterator.__iter__" ⟨[a],[]⟩:=by
 unfold argsOk
 kernel_rfl
inductive Rd|text|plain|drawn
structure Lies(h:Heap)(a:Addr)(es:Array (Int×Value))(ep:Nat)(t:SetTable):Prop where
 at_:∃o,h.get? a=some o/\o.cls=.type "set"/\o.data=.set es ep t
 fit:t.fits es.size=true
theorem Lies.at(x:Lies h a es ep t)(k:∀o,h.get? a=some o->h'.get? a=some o):Lies h' a es ep t :=
 ⟨let ⟨o,e,r⟩:=x.at_;⟨o,k o e,r⟩,x.fit⟩
def C0(h:Heap)(I a:Addr)(f:Value)(i n ep:Nat):Prop:=∃o,h.get? I=some o/\o.cls=.type "set_iterator"/\o.data=.fields #[f,rawInt i,.ref a,rawInt n,rawInt ep]
theorem C0.at(x:C0 h I a f i n ep)(k:∀o,h.get? I=some o->h'.get? I=some o):C0 h' I a f i n ep:=let ⟨o,e,r⟩:=x;⟨o,k o e,r⟩
theorem C0.ty(x:C0 s.heap I a f i n ep):s.TypeIs (.ref I) "set_iterator":=let ⟨o,e,c,_⟩:=x;⟨o,e,c⟩
def uJ(w:World)(a:Addr)(es:Array (Int×Value))(ep:Nat)(pl:List Nat):Rd->List Value
 |.text=>(pickOrder (w.params.setOrder a ep) es).toList.map (·.2)
 |.plain=>es.toList.map (·.2)
 |.drawn=>pl.map λj=>(es.getD j (0,.none)).2
def slotAt(t:SetTable):Nat->Nat
 |0=>0
 |i+1=>t.place.getD i 0+1
def O9(h:Heap)(t:SetTable)(b:Addr)(pl:List Nat)(i:Nat)(f:Value):Rd->Prop
 |.text=>∃k:Nat,f=rawInt k
 |.plain=>f=rawInt (slotAt t i)
 |.drawn=>f=.ref b/\∃o e,h.get? b=some o/\o.cls=.type "tuple"/\o.data=.seq (pl.map λj=>rawInt (j:Nat)).toArray e
def rf(w:World)(es:Array (Int×Value))(t:SetTable)(pl:List Nat):Rd->Prop
 |.text=>w.params.followText "set-order"=true
 |.plain=>w.params.followText "set-order"=false/\(t.plain=true\/es.size<=1)/\Well true t
 |.drawn=>w.params.followText "set-order"=false/\pl.Perm (List.range es.size)
theorem uP{Q:Bool->Shared->Prop}(h:Q (w.params.followText "set-order") s):wpAny (model prog w) A setsByText Q E s:=by
 exact ae (oV (aj h))
theorem GX(hL:Lies s.heap a es ep t)(ht:w.params.followText "set-order"=true){sl g:Nat}{Q:Option (Value×Nat)->Shared->Prop}(h:Q (((pickOrder (w.params.setOrder a ep) es)[g]?).map λe=>(e.2,sl)) s) :
  wpAny (model prog w) A (setNext a sl g ep) Q E s:=by
 obtain⟨o,ho,_,hd⟩:=hL.at_;refine ae (cw ho hd hL.fit ?_);refine ae (uP ?_);rw[ht,aN rfl,aG (by simp)];refine ae (ae (cw ho hd hL.fit ?_));refine ae (uP ?_);rw[ht,aN rfl];exact ae (oV (aj (aj h)))
theorem Ht(hL:Lies s.heap a es ep t)(ht:w.params.followText "set-order"=false)(hp:t.plain=true\/es.size<=1)(hl:t.led=true){sl g:Nat}{Q:Option (Value×Nat)->Shared->Prop}(h:Q (match es[SetTable.below t.place sl]?,t.place[SetTable.below t.place sl]? with|some (_,x),some j=>some (x,j+1)|_,_=>none) s):wpAny (model prog w) A (setNext a sl g ep) Q E s:=by
 obtain⟨o,ho,_,hd⟩:=hL.at_;refine ae (cw ho hd hL.fit ?_);refine ae (uP ?_);rw[ht,aG ∅];show wpAny _ _ (if(!t.plain&&decide (es.size>1))=true then _ else _) _ _ _;rw[aG (by rcases hp with e|e<;>simp[e])];refine ae (eR (a:=Unit.unit) ?_ (aj h));show((if(!t.led&&!es.isEmpty)=true then unsupported "set:maker-not-led" else pure Unit.unit):Sem Unit)=pure Unit.unit;rw[hl]
 rfl
theorem YZ(hL:Lies s.heap a es ep t)(hj:j<es.size)(h:Q (es.getD j (0,.none)).2 s):wpAny (model prog w) A (setNextDrawn a j ep) Q E s:=by
 obtain⟨o,ho,_,hd⟩:=hL.at_;refine ae (cw ho hd hL.fit ?_);dsimp only;rw[aG (by simp)];have e:es[j]?=some (es.getD j (0,.none)):=by simp_all
 rw[e];exact aj h
theorem JS(hL:Lies s.heap a es ep t):t.place.size=es.size:=by
 have:=hL.fit;unfold SetTable.fits at this;simp at this;exact this.1
theorem Hd(hw:jD t.place)(hi:i<=t.place.size):SetTable.below t.place (slotAt t i)=i:=by
 cases i with
 |zero=>exact YE hw
 |succ i=>exact YD hw ()
theorem entries{Q:Array (Int×Value)->Shared->Prop}(hL:Lies s.heap a es ep t)(h:Q es s):wpAny (model prog w) A (setEntries a) Q E s:=by
 obtain⟨o,ho,_,hd⟩:=hL.at_;exact ae (cw ho hd hL.fit (aj h))
theorem Tc{f':Value}(hi:C0 h I a f i n ep)(hx:x=rawInt ((i:Int)+1)):C0 ((h.update I (Obj.mapFields (·.setIfInBounds 0 f'))).update I (Obj.mapFields (·.setIfInBounds 1 x))) I a f' (i+1) n ep:=by
 obtain⟨o,ho,hc,hd⟩:=hi;have h1:=aW (Obj.mapFields (·.setIfInBounds 0 f')) ho (cX (br hd _));have d1:(Obj.mapFields (·.setIfInBounds 0 f') o).data=.fields #[f',rawInt i,.ref a,rawInt n,rawInt ep]:=by rw[br hd];simp
 have h2:=aW (Obj.mapFields (·.setIfInBounds 1 x)) h1 (cX (br d1 _));refine⟨_,h2,(mX ..).trans ((mX ..).trans hc),?_⟩;rw[br d1]
 simp_all
theorem Tb(hi:C0 h I a f i n ep)(hx:x=rawInt ((i:Int)+1)):C0 (h.update I (Obj.mapFields (·.setIfInBounds 1 x))) I a f (i+1) n ep:=by
 obtain⟨o,ho,hc,hd⟩:=hi;have h2:=aW (Obj.mapFields (·.setIfInBounds 1 x)) ho (cX (br hd _));refine⟨_,h2,(mX ..).trans hc,?_⟩;rw[br hd];subst hx;simp[rawInt]
theorem Fb{f':Value}{m:Sem α}{Q':α->Shared->Prop}(hi:C0 s.heap I a f i n ep)(hx:x=rawInt ((i:Int)+1))(h:∀h',C0 h' I a f' (i+1) n ep->Heap.SameBut I s.heap h'->wpAny (model prog w) A m Q' E { s with heap:=h' }) :
  wpAny (model prog w) A (do setField (.ref I) 0 f';setField (.ref I) 1 x;m) Q' E s:=by
 obtain⟨o,ho,hc,hd⟩:=id hi;refine ae (dk ho hd (by simp) ?_);have h1:=aW (Obj.mapFields (·.setIfInBounds 0 f')) ho (cX (br hd _));have d1:(Obj.mapFields (·.setIfInBounds 0 f') o).data=.fields #[f',rawInt i,.ref a,rawInt n,rawInt ep]:=by rw[br hd];simp
 refine ae (dk (s:={ s with heap:=_ }) h1 d1 (by simp) ?_);exact h _ (Tc hi hx) ((bZ ..).trans (bZ ..))
theorem Ud{m:Sem α}{Q':α->Shared->Prop}(hi:C0 s.heap I a f i n ep)(hx:x=rawInt ((i:Int)+1))(h:∀h',C0 h' I a f (i+1) n ep->Heap.SameBut I s.heap h'->wpAny (model prog w) A m Q' E { s with heap:=h' }) :
  wpAny (model prog w) A (do setField (.ref I) 1 x;m) Q' E s:=by
 obtain⟨o,ho,hc,hd⟩:=id hi;refine ae (dk ho hd (by simp) ?_);exact h _ (Tb hi hx) (bZ ..)
theorem Bk(next:Nat->Nat)(xs:Array α):(pickOrder next xs).toList.Perm xs.toList:=by
 have go:∀(fuel k:Nat) (left:List α) (out:Array α),fuel=left.length->(pickOrder.go next fuel k left out).toList.Perm (out.toList++left):=by
  intro fuel
  induction fuel with
  |zero =>
   intro k left out e;have:left=[]:=kS e.symm;subst this;simp[pickOrder.go]
  |succ n ih =>
   intro k left out e;have dq:next k % left.length<left.length:=Nat.mod_lt _ ()
   unfold pickOrder.go;rw[ak dq];refine(ih _ _ _ (by rw[mY dq];omega)).trans ?_;rw[Array.toList_push,jL];refine List.Perm.append_left _ ?_;have:left.Perm (left[next k % left.length]::left.eraseIdx (next k % left.length)):=by
    rw[jY]
    conv=>lhs;rw[<- ig (next k % left.length) left,dJ dq]
    exact List.perm_middle
   exact this.symm
 have:=go xs.size 0 xs.toList #[] (by simp);simpa[pickOrder] using this
theorem next_item{Q:Option Value->Shared->Prop}(hL:Lies s.heap a es ep t)(hr:rf w es t pl r)(hi:C0 s.heap I a f i es.size ep)(hf:O9 s.heap t b pl i f r)(fK:b≠I)(dq:i<es.size)(h:∀v h' f',(uJ w a es ep pl r)[i]?=some v->C0 h' I a f' (i+1) es.size ep->O9 h' t b pl (i+1) f' r->Heap.SameBut I s.heap h'->Q (some v) { s with heap:=h' }):wpAny (model prog w) A (pyNext (.ref I)) Q E s:=by
 obtain⟨o,ho,hc,hd⟩:=id hi;refine ae (wpAny_attempt (eT (name:=Str.ofString "__next__") hi.ty A8 (bV A8 hi.ty HG ?_ (HR _))));refine ae (aj ?_);refine ae (wpAny_fieldsOf ho hd ?_);refine ae (entries hL ?_);rw[aG (by simp)];rw[dA,dA];cases r with
 |text =>
  obtain⟨k,rfl⟩:=hf;refine ae (GX hL hr ?_);have hl:i<(pickOrder (w.params.setOrder a ep) es).size:=by
   have:=(Bk (w.params.setOrder a ep) es).length_eq
   simp_all
  rw[nY hl];refine Fb hi rfl λh' h1 h2=>aj ⟨_,rfl,aj (h _ _ _ ?_ h1 ⟨_,rfl⟩ h2)⟩;show((pickOrder (w.params.setOrder a ep) es).toList.map (·.2))[i]?=_;simp[hl]
 |plain =>
  obtain⟨r1,r2,r3⟩:=hr;have hs:=JS hL;obtain rfl:=hf;dsimp only[rawInt];rw[dA];refine ae (Ht hL r1 r2 r3.led ?_);rw[Hd r3.vU (),nY dq,getD_mem ()];refine Fb hi rfl λh' h1 h2=>aj ⟨_,rfl,aj (h _ _ _ ?_ h1 rfl h2)⟩;show(es.toList.map (·.2))[i]?=_;simp[dq]
 |drawn =>
  obtain⟨r1,r2⟩:=hr;obtain⟨rfl,ob,e,hb,Ep,wt⟩:=hf;have fU:i<pl.length:=by rw[r2.length_eq];simpa using dq
  refine ae (wpAny_seqItems hb wt ?_);have hj:pl[i]<es.size:=by
   have:=r2.mem_iff.mp (eX fU)
   simp_all
  have e1:(pl.map λj=>rawInt (j:Nat)).toArray[i]?=some (rawInt (pl[i]:Nat)):=by simp[fU]
  dsimp only;rw[e1];refine ae (YZ hL hj ?_);refine Ud hi rfl λh' h1 h2=>aj ⟨_,rfl,aj (h _ _ _ ?_ h1 ⟨rfl,ob,e,by rw[h2.2 b fK];exact hb,Ep,wt⟩ h2)⟩;show(pl.map λj=>(es.getD j (0,.none)).2)[i]?=_;simp[fU]
theorem Bl{Q:Option Value->Shared->Prop}{h0:Heap}(hh:A.handled=none)(NB:Heap.ExtBut I h0 s.heap)(h:∀h',Heap.ExtBut I h0 h'->Q none { s with heap:=h' }) :
  wpAny (model prog w) A.in1 (newExc (.type "StopIteration") [] >>= λe=>(raiseNew e:Sem Fin)) (λfin s'=>∃v,fin=Fin.done (Flow.ret v)/\wpAny (model prog w) A (pure (some v)) Q E s')
   (λe s'=>wpAny (model prog w) A (do
     let x <- isInstance e (Value.type "StopIteration")
     if x=true then pure none else throw e) Q E s') s:=by
 refine ae ?_;refine ae (cx ?_ (by size_fits));refine ae (m:=firstArgMember _ _) (eR (a:=Value.none) (by rfl) ?_);refine cx ?_ (by size_fits);refine ae (wpAny_handled ?_);rw[show A.in1.handled=none from hh];refine ae (aj (wpAny_throw ?_));refine ae (fB (T:="StopIteration") (b:=true) ⟨_,ax _ rfl,rfl⟩ isSubtype_stop ?_);exact aj (h _ ((NB.push _).push _))
theorem next_end{Q:Option Value->Shared->Prop}(hh:A.handled=none)(hL:Lies s.heap a es ep t)(hr:rf w es t pl r)(hi:C0 s.heap I a f es.size es.size ep)(hf:O9 s.heap t b pl es.size f r)(fK:b≠I)(h:∀h',Heap.ExtBut I s.heap h'->Q none { s with heap:=h' }):wpAny (model prog w) A (pyNext (.ref I)) Q E s:=by
 obtain⟨o,ho,hc,hd⟩:=id hi;refine ae (wpAny_attempt (eT (name:=Str.ofString "__next__") hi.ty A8 (bV A8 hi.ty HG ?_ (HR _))));refine ae (aj ?_);refine ae (wpAny_fieldsOf ho hd ?_);refine ae (entries hL ?_);rw[aG (by simp)];rw[dA,dA];cases r with
 |text =>
  obtain⟨k,rfl⟩:=hf;refine ae (GX hL hr ?_);have hl:(pickOrder (w.params.setOrder a ep) es).size<=es.size:=by
   have:=(Bk (w.params.setOrder a ep) es).length_eq
   grind
  rw[sA hl];refine ae (dk ho hd (by simp) ?_);exact Bl (s:={ s with heap:=_ }) hh (bZ ..).extBut h
 |plain =>
  obtain⟨r1,r2,r3⟩:=hr;have hs:=JS hL;obtain rfl:=hf;dsimp only[rawInt];rw[dA];refine ae (Ht hL r1 r2 r3.led ?_);rw[Hd r3.vU (),sA (au _)];refine ae (dk ho hd (by simp) ?_);exact Bl (s:={ s with heap:=_ }) hh (bZ ..).extBut h
 |drawn =>
  obtain⟨r1,r2⟩:=hr;obtain⟨rfl,ob,e,hb,Ep,wt⟩:=hf;have fU:pl.length=es.size:=by rw[r2.length_eq];simp
  refine ae (wpAny_seqItems hb wt ?_);have e1:(pl.map λj=>rawInt (j:Nat)).toArray[es.size]?=none:=by simp[fU]
  dsimp only;rw[e1];refine ae (dk ho hd (by simp) ?_);have h1:=aW (Obj.mapFields (·.setIfInBounds 0 (Value.int 0 0))) ho (cX (br hd _));refine ae (dk (s:={ s with heap:=_ }) h1 (br hd _) (by simp) ?_);exact Bl (s:={ s with heap:=_ }) hh ((bZ ..).trans (bZ ..)).extBut h
theorem a09{l:List α}(dq:k<l.length):(l[k]::l.eraseIdx k).Perm l:=by
 rw[jY]
 conv=>rhs;rw[<- ig k l,dJ dq]
 exact List.perm_middle.symm
theorem Hg{α:Type}:∀(n:Nat) (xs:List α) (s:Shared) (Q:List α->Shared->Prop),n=xs.length->(∀ys d,ys.Perm xs->Q ys { s with drawn:=d })->wpAny (model prog w) A (drawOrder n xs) Q E s
 |0,xs,s,Q,e,h=>by
  have:xs=[]:=kS e.symm;subst this;exact aj (h [] s.drawn (List.Perm.refl _))
 |n+1,[],s,Q,e,h=>by simp at e
 |n+1,x::xs,s,Q,e,h=>by
  refine ae ?_;intro Γ p hΓ;refine⟨by simp,?_⟩;generalize (model prog w).w.draws .order (s.drawn.get .order)=k;have dq:k % (x::xs).length<(x::xs).length:=Nat.mod_lt _ (by simp);have go:wpAny (model prog w) A (match (x :: xs)[k % (x :: xs).length]? with
   |some y=>do
    let ys <- drawOrder n ((x::xs).eraseIdx (k % (x::xs).length))
    pure (y::ys)
   | none=>unsupported "internal:drawOrder") Q E { s with drawn:=s.drawn.bump .order }:=by
   rw[ak dq];refine ae (Hg n _ _ _ (by rw[mY dq];omega) λys d hp=>aj ?_);exact h _ d ((List.Perm.cons _ hp).trans (a09 dq))
  exact go
theorem JG(hr:rf w es t pl r):(uJ w a es ep pl r).Perm (es.toList.map (·.2)):=by
 cases r with
 |text=>exact(Bk _ es).map _
 |plain=>rfl
 |drawn =>
  refine(hr.2.map _).trans ?_;have:(List.range es.size).map (λj=>(es.getD j (0,.none)).2)=es.toList.map (·.2):=by
   apply List.ext_getElem
   ·simp
   simp_all
  rw[this]
theorem Lies.ty(hL:Lies s.heap a es ep t):s.TypeIs (.ref a) "set":=let ⟨o,e,c,_⟩:=hL.at_;⟨o,e,c⟩
theorem a87(hL:Lies s.heap a es ep t)(hw:Well (Led w) t)(hz:es.size<=10000)(h:∀r pl b f I h' d',rf w es t pl r->C0 h' I a f 0 es.size ep->O9 h' t b pl 0 f r->b≠I->(b=a\/s.heap.objs.size<=b)->(∀c o,s.heap.get? c=some o->h'.get? c=some o)->s.heap.objs.size<=I->s.heap.objs.size<=h'.objs.size->Q (.ref I) { s with heap:=h',drawn:=d' }) :
  wpAny (model prog w) A (pyIter (.ref a)) Q E s:=by
 obtain⟨o,ho,yV,hd⟩:=hL.at_;refine mU hL.ty F.slot_set_iter (bV F.slot_set_iter hL.ty ZU ?_ (F.args_set_iter_1 _));refine ae (aj ?_);refine ae (ae (entries hL (aj ?_)));refine ae (ae (cw ho hd hL.fit ?_));refine ae (uP (aj ?_));have dq:=az ho;have fin:∀(r:Rd) (f:Value) (b:Addr) (pl:List Nat) (h1:Heap) (d1:Drawn),rf w es t pl r->(∀h',(∀c o,h1.get? c=some o->h'.get? c=some o)->O9 h' t b pl 0 f r)->b<h1.objs.size->(b=a\/s.heap.objs.size<=b)->(∀c o,s.heap.get? c=some o->h1.get? c=some o)->s.heap.objs.size<=h1.objs.size ->
   wpAny (model prog w) A.in1 (do
    let e <- setEpoch a
    ret (<- newFields "set_iterator" [f,rawInt 0,.ref a,rawInt es.size,rawInt e])) (λfin s'=>∃ v,fin=Fin.done (Flow.ret v)/\∃ T' r,s'.TypeIs v T'/\typeLookup (.type T') "__next__"=pure (some r)/\Q v s') E { s with heap:=h1,drawn:=d1 }:=λr f b pl h1 d1 hr hf hb zj he hsz=>by
  have mL:Lies h1 a es ep t:=hL.at λo e=>he a o e;obtain⟨o1,Mf,_,En⟩:=mL.at_;refine ae (ae (cw (s:={ s with heap:=h1,drawn:=d1 }) Mf En mL.fit (aj ?_)));refine ae (cx (aj ⟨_,rfl,"set_iterator",_,⟨_,ax _ rfl,rfl⟩,A8.lookup,?_⟩));refine h r pl b f h1.objs.size _ d1 hr ⟨_,ax _ rfl,rfl,rfl⟩ (hf _ λc o e=>ai _ e) (aJ hb) zj (λc o e=>ai _ (he c o e)) hsz (by rw[size_push'];exact jI hsz)
 cases hT:w.params.followText "set-order" with
 |true =>
  refine ae (aj ?_);exact fin .text (rawInt 0) a [] s.heap s.drawn hT (λh' _=>⟨0,rfl⟩) dq (.inl rfl) (λc o e=>e) (au _)
 |false =>
  show wpAny _ _ (if(!false&&(!t.plain&&decide (es.size>1)))=true then _ else _ ) _ _ _;by_cases hp:t.plain=true\/es.size<=1
  ·rw[aG (by rcases hp with e|e<;>simp[e])];refine ae (aj ?_);refine fin .plain (rawInt 0) a [] s.heap s.drawn ⟨hT,hp,?_⟩ (λh' _=>rfl) dq (.inl rfl) (λc o e=>e) (au _);have:Led w=true:=by unfold Led;rw[hT];rfl
   simp_all
  ·rw[aN (by grind)];refine ae (Hg _ _ _ _ (List.length_range).symm λys d hy=>?_);have hl:ys.length=es.size:=by rw[hy.length_eq];simp
   refine ae (cx ?_ (by show(List.map _ ys).toArray.size<=sizeLine;rw[aP,av,hl];exact aA hz ∅));refine fin .drawn (.ref s.heap.objs.size) s.heap.objs.size ys _ d ⟨hT,hy⟩ (λh' hk=>⟨rfl,_,_,hk _ _ (ax _ rfl),rfl,rfl⟩) (by simp) (.inr (au _)) (λc o e=>ai _ e) (by simp)
theorem Ys(hh:A.handled=none)(hr:rf w es t pl r)(fK:b≠I)(Mi:a≠I) :
  Walks prog w A I [I,a,b] [I] es.size (λi v=>(uJ w a es ep pl r)[i]?=some v) (λi h=>Lies h a es ep t/\∃f,C0 h I a f i es.size ep/\O9 h t b pl i f r) where
 sub:=λc hc=>by simp_all
 frame:=λi h h' st hk=>by
  obtain⟨hL,f,hi,hf⟩:=st;refine⟨hL.at λo e=>hk a (by simp) o e,f,hi.at λo e=>hk I (by simp) o e,?_⟩;cases r with
  |text=>exact hf
  |plain=>exact hf
  |drawn =>
   obtain⟨e1,o,e,h1,h2⟩:=hf;exact⟨e1,o,e,hk b (by simp) o h1,h2⟩
 item:=λi s Q E hi st hQ=>by
  obtain⟨hL,f,hI,hf⟩:=st;exact next_item hL hr hI hf fK hi λv h' f' hv h1 h2 h3=>hQ v h' s.toks hv ⟨hL.at λo e=>by rw[h3.2 a Mi];exact e,f',h1,h2⟩ λc o hc e=>h3.extBut c o (λz=>hc (by simp[z])) e
 done:=λs Q E st hQ=>by
  obtain⟨hL,f,hI,hf⟩:=st;exact next_end hh hL hr hI hf fK λh' he=>hQ h' s.toks λc o hc e=>he c o (λz=>hc (by simp[z])) e
 self:=λi s Q E st hQ=>by
  obtain⟨hL,f,hI,hf⟩:=st;refine mU hI.ty HW (bV HW hI.ty Zu ?_ (ZN _));exact ae (aj (aj ⟨_,rfl,"set_iterator",_,hI.ty,A8.lookup,hQ⟩))
theorem ZX:typeLookup (.type "set") "__len__"=pure (some (.builtin "set.__len__")):=by rfl
theorem ZI(hh:A.handled=none)(hL:Lies s.heap a es ep t)(hw:Well (Led w) t)(hz:es.size<=10000){Q:List Value->Shared->Prop}(h:∀(vs:List Value) h' d' iL,vs.Perm (es.toList.map (·.2))->(∀c o,s.heap.get? c=some o->h'.get? c=some o)->s.heap.objs.size<=h'.objs.size->s.toks<=iL->Q vs { s with heap:=h',drawn:=d',toks:=iL }) :
  wpAny (model prog w) A (collect (.ref a)) Q E s:=by
 have dq:a<s.heap.objs.size:=let ⟨o,ho,_⟩:=hL.at_;az ho
 refine ae (xV (cY F.entry_proto_collect ?_));refine ae (cx ?_);refine aj ⟨fJ F.plain_list_iadd _,cY F.entry_list_iadd ?_⟩;have mL:Lies (s.heap.push { cls:=.type "list",data:=.seq ([]:List Value).toArray }) a es ep t:=hL.at λo e=>ai _ e;have zw:(s.heap.push { cls:=.type "list",data:=.seq ([]:List Value).toArray }).get? s.heap.objs.size=some { cls:=.type "list",data:=.seq ([]:List Value).toArray }:=ax _ rfl;have fK:s.heap.objs.size≠a:=bw dq;have h1:Builtin.List.listSameRef (.ref s.heap.objs.size) (.ref a)=false:=by simp[Builtin.List.listSameRef,fK]
 show wpAny _ A.in1 (Builtin.List.listExtendWith (.ref s.heap.objs.size) (.ref a) (.ref s.heap.objs.size)) _ _ _;refine ae (dB (Lies.ty (s:={ s with heap:=_ }) mL) ?_);rw[aG (by rw[h1];decide)];refine ae (a87 (s:={ s with heap:=_ }) mL hw hz λr pl b f I h2 d2 hr hI hf hb MM he zz h2z=>?_);have nG:Lies h2 a es ep t:=mL.at λo e=>he a o e;have ox:=he _ _ zw;refine ae (bq ?_);refine ae (wpAny_specialOf (Lies.ty (s:={ s with heap:=h2,drawn:=d2 }) nG) ZX ?_);generalize tR:("set.__len__":String)=yE;dsimp only;rw[show splitId yE=some ("set","__len__") from by subst tR;decide +kernel];dsimp only;refine ae (fB (b:=true) (Lies.ty (s:={ s with heap:=h2,drawn:=d2 }) nG) (by rfl) ?_);rw[aG ∅];subst tR;rw[aN (by decide +kernel)];refine ae (dB (Lies.ty (s:={ s with heap:=h2,drawn:=d2 }) nG) ?_);refine aj ?_;rw[aN (by decide +kernel)];refine ae (ly ?_);refine ae ?_;show wpAny _ A.in1 (updateSeq s.heap.objs.size (·.push .none) >>= λ_=>updateSeq s.heap.objs.size (·.pop)) _ _ _;refine ae (je (s:={ s with heap:=h2,drawn:=d2 }) ox rfl ?_);have ub:=aW (Obj.mapSeq (·.push Value.none)) ox rfl;refine je (s:={ s with heap:=_,drawn:=d2 }) ub rfl ?_;have zu:=aW (Obj.mapSeq (·.pop)) ub rfl;have sL:∀c o,c≠s.heap.objs.size->h2.get? c=some o->((h2.update s.heap.objs.size (Obj.mapSeq (·.push Value.none))).update s.heap.objs.size (Obj.mapSeq (·.pop))).get? c=some o :=
  λc o hc e=>(bW _ _ (bf hc)).trans ((bW _ _ (bf hc)).trans e)
 have kc:s.heap.objs.size<(s.heap.push { cls:=.type "list",data:=.seq ([]:List Value).toArray }).objs.size:=by simp
 have MV:I≠s.heap.objs.size:=bw (ay kc zz);have hSb:b≠s.heap.objs.size:=by
  rcases MM with z|z
  ·rw[z];exact bf fK
  ·exact bw (ay kc z)
 have W:=(Ys (prog:=prog) (w:=w) (A:=A.in1) (a:=a) (b:=b) (I:=I) (es:=es) (ep:=ep) (t:=t) (pl:=pl) hh hr hb (aJ (ay (cH dq kc) zz))).toS;have st:Lies h2 a es ep t/\∃f,C0 h2 I a f 0 es.size ep/\O9 h2 t b pl 0 f r:=⟨nG,f,hI,hf⟩
 have iD:=W.frame 0 ({ s with heap:=h2,drawn:=d2 }:Shared) _ s.toks st (au _) λc hc o e=>sL c o (λz=>by simp at hc;rcases hc with y|y|y<;>simp_all) e;refine aj ⟨fJ F.plain_extend_loop _,codeAny_extend_loopS W (aA hz ∅) _ (λz=>by simp at z;rcases z with y|y|y<;>simp_all) _ es.size 0 _ _ _ rfl (cc _) iD zu (ItemsOf.nil _) λs' qk c' hm ki iG=>?_⟩;show wpAny _ A (load s.heap.objs.size >>= _) _ _ s';refine ae (wpAny_load ki ?_);refine aj ?_;have eS:s'={ s with heap:=s'.heap,drawn:=d2,toks:=s'.toks }:=by
  obtain⟨ia,g',d',iL,pB⟩:=s';have m1:g'=s.gens:=hm.gens;have m2:d'=d2:=hm.drawn;have m3:pB=s.os:=hm.os
  grind
 have eo:qk.toList=uJ w a es ep pl r:=by
  have l1:(uJ w a es ep pl r).length=es.size:=by rw[(JG hr).length_eq];simp
  apply List.ext_getElem
  ·rw[l1];simpa using iG.1
  ·intro i h1 h2;have:=iG.2 i qk.toList[i] (by simp at h1 ⊢);dsimp only at this;rw[ak h2] at this;exact(aD this).symm
 rw[eo,eS];refine h _ _ d2 s'.toks (JG hr) (λc o e=>?_) (cT (az ki)) hm.toks;have hc:c<s.heap.objs.size:=az e;have n1:c≠s.heap.objs.size:=aJ hc;have n2:c≠I:=aJ (ay (cH hc kc) zz);exact hm.heap c o (by simp[n1,n2]) (sL c o n1 (he c o (ai _ e)))
theorem Zg(hh:A.handled=none)(hS:n6 prog w s.heap a ks)(ED:ks.length<64)(h:∀(S:Addr) (vs:List Value) (ns:List Int) e h' d' iL,IntsAre vs ns->ns.Perm ks->ns.Pairwise (·<=·)->h'.get? S=some (seqObj "list" vs.toArray e)->s.heap.objs.size<=S->(∀c o,s.heap.get? c=some o->h'.get? c=some o)->s.toks<=iL->Q (.ref S) { s with heap:=h',drawn:=d',toks:=iL }) :
  wpAny (model prog w) A (call (.builtin "sorted") [.ref a]) Q E s:=by
 obtain⟨o,es,ep,t,ho,hx,hd,lS,hp,hn,hb,hf,hw⟩:=hS;have hL:Lies s.heap a es ep t:=⟨⟨o,ho,hx.1,hd⟩,hf⟩
 have hz:es.size=ks.length:=by rw[<- hp.length_eq];simp
 refine gR kind_sorted plain_sorted entry_sorted (args_sorted1 _) ?_;unfold Builtin.«sorted»;refine ae (m:=checkCount "sorted" 1 1 _) (aj ?_);refine ae (ZI (A:=A.in1) hh hL hw () λvs h1 d1 pe hv he kc qG=>?_);have hI:IntsAre vs (vs.map toI):=by
  have all:∀v∈vs,∃tk,v=.int (toI v) tk:=λv yN=>by
   obtain⟨e,pJ,rfl⟩:=aE.mp (hv.mem_iff.mp yN);obtain⟨tk,h1,_⟩:=wY lS pJ;exact⟨tk,h1⟩
  clear hv
  induction vs with
  |nil=>exact .nil
  |cons v r ih =>
   obtain⟨tk,e⟩:=all v (by simp);have:=IntsAre.cons (toI v) tk (ih λu hu=>all u (by simp[hu]));rw[<- e] at this;exact this
 have hk:(vs.map toI).Perm ks:=by
  refine(hv.map toI).trans ?_;rw[eJ];exact hp
 have hl:vs.length<64:=by rw[hv.length_eq];simp;omega
 refine ae (KA (s:={ s with heap:=h1,drawn:=d1,toks:=pe }) ?_);have kF:(h1.push (seqObj "list" vs.toArray 0)).get? h1.objs.size=some (seqObj "list" vs.toArray 0):=ax _ rfl;refine ae (bq (bV (s:={ s with heap:=h1.push (seqObj "list" vs.toArray 0),drawn:=d1,toks:=pe }) slot_list_sort ⟨_,kF,rfl⟩ entry_list_sort (list_sort_tree kF hI hl λout iZ a1 a2 a3=>⟨_,rfl,?_⟩) (args_list_sort _)));obtain⟨e,pJ⟩:=sortedHeap_at (vs:=vs) (out:=out) kF;refine aj ⟨_,rfl,h h1.objs.size out.toList iZ e _ d1 pe a1 (a2.trans hk) a3 pJ kc (λc o' e'=>?_) qG⟩;have hc:=az (he c o' e');rw[sortedHeap_old (aJ hc) (by rw[size_push'];exact jH hc)];exact ai _ (he c o' e')
def d7(ks xs:List Int):List Int:=xs.foldl B0 ks
theorem M6:∀(xs ks:List Int),(d7 ks xs).length<=ks.length+xs.length
 |[],ks=>by simp[d7]
 |x::xs,ks=>by
  have:=M6 xs (B0 ks x);have h2:=Ro ks x;show(d7 (B0 ks x) xs).length<=_
  grind
theorem Hq:∀(xs ks:List Int) (k:Int),k∈d7 ks xs↔k∈ks\/k∈xs
 |[],ks,k=>by simp[d7]
 |x::xs,ks,k=>by
  show k∈d7 (B0 ks x) xs↔_;rw[Hq xs];unfold B0;split
  ·rename_i h;constructor
   ·rintro(a|a)
    ·exact .inl a
    ·exact .inr (by simp[a])
   ·rintro(a|a)
    ·exact .inl a
    ·rcases aC.mp a with rfl|b
     ·exact .inl h
     ·exact .inr b
  ·simp[or_assoc]
theorem YK:Well (Led w) (SetTable.fresh 0 0 (Led w)):=⟨by simp[jD,SetTable.fresh],rfl,rfl⟩
theorem GH(e:h.get? a=some { cls:=.type "set",dict:=none,data:=.set #[] 0 (.fresh 0 0 (Led w)) }):n6 prog w h a [] :=
 ⟨_,#[],0,_,e,⟨rfl,rfl,rfl⟩,rfl,(by intro e he;simp at he),by simp,by simp,by decide,by rfl,YK⟩
theorem a72{R:Result->Shared->Prop}{fp wr:List Addr}{G:Array GenState->Array GenState->Prop}{P:Nat->Value->Prop}{St:Nat->Shared->Prop}(W:WalksS prog w A.in1 I fp wr G n P St)(Ew:a∉fp)(hn:n=ns.length)(hv:∀i v,P i v->∃tk,v=.int (ns.getD i 0) tk)(hb:n+1<scanBound):∀(k i:Nat) (s:Shared),i+k=n->St i s->n6 prog w s.heap a (d7 [] (ns.take i)) ->
   (∀s',Moved (a::wr) G s s'->n6 prog w s'.heap a (d7 [] ns)->R (.ok (.ret .none)) s')->codeAny (model prog w) A (.builtin "set.update.loop" ⟨[.ref a,.ref I],[]⟩) R s:=by
 have hw:a∉wr:=λh=>Ew (W.sub _ h);have sD:∀b∈wr,b∈a::wr:=λb hb=>by simp[hb]
 intro k
 induction k with
 |zero =>
  intro i s e st hS hR;obtain rfl:i=n:=by omega
  refine cY iS ?_;refine ae (W.done s _ _ st λs' m=>aj (hR s' (m.mono sD) (n6.at ?_ λo e=>m.heap a o hw e)))
  simp_all
 |succ k ih =>
  intro i s e st hS hR;have dq:i<ns.length:=by omega
  refine cY iS ?_;refine ae (W.item i s _ _ () st λv s' hP kT m=>?_);obtain⟨tk,rfl⟩:=hv i v hP;have ki:=n6.at hS λo e=>m.heap a o hw e;have hl:=M6 (ns.take i) [];rw[cy] at hl;simp only[List.length_nil] at hl;refine ae (bq ?_);refine bq (ae ((intKind prog w).pyHash (k:=ns.getD i 0) (dW _ _ _ _) ?_));refine Fm (s:={ s' with toks:=s'.toks+1 }) ki () λh' bb sb ox=>?_;have e2:B0 (d7 [] (ns.take i)) (ns.getD i 0)=d7 [] (ns.take (i+1)):=by
   unfold d7;rw[bt,List.foldl_append,ak dq];simp[List.getD,dq]
  rw[e2] at ox;refine aj ⟨fJ PyProof.Rows.F.plain_set_update_loop _,ih (i+1) _ () (W.frame _ s' _ _ kT (iB _) λb hb o e=>by rw[sb.2 b λz=>Ew (z▸hb)];exact e) ox λs2 m2 h2=>?_⟩;exact hR s2 (Moved.trans W.gtrans ((m.mono sD).then_heap (iB _) λb o hb e=>by rw[sb.2 b λz=>hb (by rw[z];simp)];exact e) m2) h2
noncomputable abbrev u3(w:World):Obj:={ cls:=.type "set",dict:=none,data:=.set #[] 0 (.fresh 0 0 (Led w)) }
theorem IU(h:Q (.ref s.heap.objs.size) { s with heap:=s.heap.push (u3 w) }):wpAny (model prog w) A (newSet (.type "set")) Q E s:=by
 refine ae (uP ?_);exact cx h (cc _)
theorem Rw(x:Value)(h:Q (.ref s.heap.objs.size) { s with heap:=s.heap.push (u3 w) }):codeAny (model prog w) A (.call (.builtin "set.__new__") ⟨[.type "set",x],[]⟩) (wants Q E) s:=by
 refine so (?_:wpAny _ A.in1 (do
  checkBuiltinCall "set.__new__" ⟨[.type "set",x],[]⟩
  again (.builtin "set.__new__" ⟨[.type "set",x],[]⟩)) _ _ s)
 refine ae (eR (F.newCall_set_1 x) (aj ⟨fJ F.plain_set_new _,?_⟩));refine cY F.entry_set_new ?_;have sub:=sub_set_self;refine ae (m:=Builtin.Frozenset.newClass "set" _) ?_;refine ae (eR (a:=true) (by rfl) ?_);refine ae (eR sub ?_);refine aj ?_;exact ae (IU (aj h))
theorem xi{vs:List Value}(h:IntsAre vs ns):vs.length=ns.length:=by
 induction h with
 |nil=>rfl
 |cons n t r ih=>simp[ih]
def vi(h:Heap)(l:Addr)(items:Array Value):Prop:=h.IsList l items\/h.IsTuple l items
theorem vi.lt(x:vi h l items):l<h.objs.size:=by
 rcases x with⟨_,e,_⟩|⟨_,e,_⟩<;>exact az e
theorem RQ{Q:Fin->Shared->Prop}(hh:A.handled=none)(hS:s.heap.get? a=some (u3 w))(hl:vi s.heap l items)(hi:IntsAre items.toList ns)(hb:items.size+1<scanBound)(fK:a≠l)(h:∀h' tk,n6 prog w h' a (d7 [] ns)->(∀b o,b≠a->s.heap.get? b=some o->h'.get? b=some o)->s.toks<=tk->wpAny (model prog w) A (ret .none) Q E { s with heap:=h',toks:=tk }) :
  wpAny (model prog w) A (Builtin.«set.__init__» ⟨[.ref a,.ref l],[]⟩) Q E s:=by
 have hT:s.TypeIs (.ref a) "set":=⟨_,hS,rfl⟩
 have dq:=hl.lt;have Ea:l≠s.heap.objs.size:=aJ dq;refine ae (eR (a:=Unit.unit) rfl ?_);have nm:∀{Q':String->Shared->Prop},(∀x,Q' x s)->wpAny (model prog w) A (typeNameOfCut 200 (.ref a)) Q' E s:=λ{Q'} q=>by
  refine ae (ae (dB hT ?_));refine aj (eR (a:="set") ?_ (q _))
  rfl
 refine ae (nm λx=>?_);refine ae (m:=checkCount _ 0 1 _) (aj ?_);refine ae (m:=Builtin.Frozenset.addrOf _) (aj ?_);refine ae (ae (cw hS rfl rfl (aj ?_)));rw[aG (by unfold SetTable.fill;simp[SetTable.fresh])];unfold Builtin.Frozenset.updateFrom Builtin.Frozenset.isAnySet;obtain⟨c,qP,zt,it,hit,Ed,St,W,eP⟩:∃c:String,(c="list"\/c="tuple")/\s.TypeIs (.ref l) c/\∃it:Obj,(∀Q':Value->Shared->Prop,Q' (.ref s.heap.objs.size) { s with heap:=s.heap.push it }->wpAny (model prog w) A (pyIter (.ref l)) Q' E s) /\
   (∀b o,s.heap.get? b=some o->(s.heap.push it).get? b=some o)/\∃St:Nat->Shared->Prop,WalksS prog w A.in1 s.heap.objs.size [s.heap.objs.size,l] [s.heap.objs.size] (λa b=>b=a) items.size (λi v=>items[i]?=some v) St/\St 0 { s with heap:=s.heap.push it }:=by
  rcases hl with hl|hl
  ·obtain⟨o,ho,hc,_⟩:=id hl;exact⟨"list",.inl rfl,⟨o,ho,hc⟩,_,λQ' q=>hJ hl q,λb o e=>ai _ e,_,(Walks.list (A:=A.in1) hh _ l Ea items).toS,⟨⟨_,ax _ rfl,rfl,rfl⟩,hl.push _⟩⟩
  ·obtain⟨o,ho,hc,_⟩:=id hl;exact⟨"tuple",.inr rfl,⟨o,ho,hc⟩,_,λQ' q=>wpAny_pyIter_tuple hl q,λb o e=>ai _ e,_,(Walks.tuple (A:=A.in1) hh _ l Ea items).toS,⟨⟨_,ax _ rfl,rfl,rfl⟩,hl.push _⟩⟩
 refine ae (ae (ae (fB (b:=false) zt (by rcases qP with rfl|rfl<;>(rw[jG];kernel_rfl)) ?_)));show wpAny (model prog w) A (isInstance (Value.ref l) (Value.type "frozenset")) _ _ _;refine fB (b:=false) zt (by rcases qP with rfl|rfl<;>(rw[jG];kernel_rfl)) ?_;rw[aG ∅];refine ae (dB zt ?_);rw[aG (by rcases qP with rfl|rfl<;>decide)];refine ae (hit _ ?_);refine ae (xV ?_);have MP:a<s.heap.objs.size:=az hS;have hsz:items.size=ns.length:=by exact xi hi
 refine a72 (a:=a) (ns:=ns) W (by simp only[List.mem_cons,List.not_mem_nil,or_false,not_or];exact⟨aJ MP,fK⟩) hsz (λi v hv=>IntsAre.int_at hi i v (by rw[ij];exact hv)) hb items.size 0 _ ()
  eP (GH (Ed _ _ hS)) λs' m ki=>?_
 have eS:s'={ s with heap:=s'.heap,toks:=s'.toks }:=by
  obtain⟨ia,g',d',iL,pB⟩:=s';have m1:g'=s.gens:=m.gens;have m2:d'=s.drawn:=m.drawn;have m3:pB=s.os:=m.os
  simp_all
 rw[eS];refine aj (h _ _ ki (λb o hb e=>?_) m.toks);exact m.heap b o (by simp only[List.mem_cons,List.not_mem_nil,or_false,not_or];exact⟨hb,aJ (az e)⟩) (Ed _ _ e)
theorem Jt(hh:A.handled=none)(hl:vi s.heap l items)(hi:IntsAre items.toList ns)(hb:items.size+1<scanBound)(h:∀h' tk,n6 prog w h' s.heap.objs.size (d7 [] ns)->(∀b o,s.heap.get? b=some o->h'.get? b=some o)->s.toks<=tk->Q (.ref s.heap.objs.size) { s with heap:=h',toks:=tk }) :
  wpAny (model prog w) A (call (.type "set") [.ref l]) Q E s:=by
 have cs:=F.called_set;obtain⟨_,_,y1⟩:=cs.mro;have y2:=cs.made;have y3:=cs.sub;have y4:=cs.notType;have y5:=cs.canCreate;have y6:=F.typeCall_set_1 (.ref l);refine wpAny_call (so (?_:wpAny _ _ (callAny (.type "set") _) _ _ _));refine aj ⟨Code.quiet_builtin _ (by decide +kernel),cY F.entry_type_call ?_⟩;rw[Around.under_plain (weight_type_call_type "set" [.ref l] []) rfl]
 repeat (any_goals (first|assumption|wp_step))
 refine gh (Rw (.ref l) (E:=E) (Q:=λv s1=>v=.ref s.heap.objs.size/\s1={ s with heap:=s.heap.push (u3 w) }) ⟨rfl,rfl⟩) ?_;rintro(e|fl) s1 hr
 ·exact hr
 cases fl with
 |next=>exact hr
 |brk=>exact hr
 |cont=>exact hr
 |ret v =>
 obtain⟨rfl,rfl⟩:=hr;have hS:(s.heap.push (u3 w)).get? s.heap.objs.size=some (u3 w):=ax _ rfl;have hT:Shared.TypeIs { s with heap:=s.heap.push (u3 w) } (.ref s.heap.objs.size) "set":=⟨_,hS,rfl⟩
 have y7:=cs.init.lookup;have y8:=cs.init.bind (.ref s.heap.objs.size)
 repeat (any_goals (first|assumption|wp_step))
 refine gh (codeAny_call_builtin (R:=wants (λv s2=>v=.none/\∃h' tk,s2={ s with heap:=h',toks:=tk }/\n6 prog w h' s.heap.objs.size (d7 [] ns)/\(∀b o,s.heap.get? b=some o->h'.get? b=some o)/\s.toks<=tk) E) cs.init.plain F.entry_set_init (check_set_init_1 hT ?_)) ?_
 ·have Ec:vi (s.heap.push (u3 w)) l items:=hl.imp (·.push _) (·.push _);have Mq:=hl.lt;refine RQ (s:={ s with heap:=s.heap.push (u3 w) }) (by simp[hh]) hS Ec hi hb (bw Mq) λh' tk h1 h2 h3=>aj ⟨rfl,h',tk,rfl,h1,λb o e=>h2 b o (aJ (az e)) (ai _ e),h3⟩
 ·rintro(e|fl) s2 hr
  ·exact hr
  cases fl with
  |next=>exact hr
  |brk=>exact hr
  |cont=>exact hr
  |ret v =>
  obtain⟨rfl,h',tk,rfl,h1,h2,h3⟩:=hr
  repeat (any_goals (first|assumption|wp_step))
  exact h _ _ h1 h2 h3
end ST
namespace L2
open PySem PySem.Spec PyProof.Rows
def qd(X:Cx)(a:Addr)(ks:List Int):HO:=.ext λh=>ST.n6 X.prog X.w h a ks
def j5(ns:List Int):List Int:=(ST.d7 [] ns).mergeSort (λa b=>decide (a<=b))
theorem K9:∀{a b:List Int},a.Perm b->a.Pairwise (·<=·)->b.Pairwise (·<=·)->a=b
 |[],b,h,_,_=>by simp_all
 |x::a,[],h,_,_=>absurd h.length_eq (by simp)
 |x::a,y::b,h,h1,h2=>by
  rw[cK] at h1 h2;have e:x=y:=by
   have m1:=h.mem_iff (a:=y);have m2:=h.mem_iff (a:=x);simp only[List.mem_cons,true_or,true_iff,iff_true] at m1 m2;rcases m1 with z|z
   ·exact z.symm
   ·grind
  subst e;rw[K9 (h.cons_inv) h1.2 h2.2]
theorem BQ(ns:List Int):(j5 ns).Pairwise (·<=·):=by
 have:=qr (le:=λa b:Int=>decide (a<=b)) (λa b c h1 h2=>by simp at *;omega) (λa b=>by simp;omega) (ST.d7 [] ns);exact this.imp λh=>by simpa using h
theorem S0(ns:List Int):(j5 ns).Perm (ST.d7 [] ns):=Dm _ _
theorem V5(ns:List Int):(j5 ns).length<=ns.length:=by
 rw[(S0 ns).length_eq];have:=ST.M6 ns []
 simp_all
section
variable{X:Cx}{pins:List (Addr×Obj)}{Z:St}{H:Hp}{s:Shared}
theorem Inv.draw(I:Inv X pins Z H s)(d:Drawn):Inv X pins Z H { s with drawn:=d } :=
 I.step (g':=s.gens) (t':=s.toks) (d':=d) (ch:=[]) (by simp) (λb o _ _ _ e _=>e) (λb o _ _ _ e _=>⟨o.slots,e⟩) (λb o _ _ e=>e) (λb o _ e=>⟨o,e⟩) (λ_ _ e=>e) (λ_ _ _ e=>e) (λb ps e=>⟨#[],by simp[e]⟩) (λm hm=>hm) I.bz I.bare
theorem Jl{h:Heap}{a:Addr}{ks:List Int}(x:ST.n6 X.prog X.w h a ks):j4 X.prog X.w H h a (qd X a ks) :=
 ⟨x,by obtain⟨o,_,_,_,e,_⟩:=x;exact⟨o,e⟩,λh1 h2 y k=>y.at k⟩
theorem BR{ns:List Int}{vs:List Value}(h:IntsAre vs ns):Vals (ns.map V.int) vs:=by
 induction h with
 |nil=>exact .nil
 |cons n t r ih=>exact .cons ⟨t,rfl⟩ ih
theorem M4:∀{ns:List Int} {vs:List Value},Vals (ns.map V.int) vs->IntsAre vs ns
 |[],_,h=>by cases h;exact .nil
 |n::ns,_,h=>by
  cases h with
  |cons r rr =>
   obtain⟨t,rfl⟩:=r;exact .cons n t (M4 rr)
theorem HS(hc:X.calm=true):j8 X (.type "set") (λxs H Q=>∃a ns,xs=[.ref a]/\eQ X.K H a (ns.map V.int)/\ns.length<60/\∀p,H p=none->Q (.ref p) (upd H p (qd X p (ST.d7 [] ns)))):=by
 intro pins s Z H xs us Q I r h;obtain⟨a,ns,rfl,hq,hl,q⟩:=h;cases r with
 |cons r rr =>
 cases rr;cases r;obtain⟨aX,rv,p,hz⟩:=I.list hq;have hI:=M4 rv;have hlen:=ST.xi hI;refine ST.Jt (ns:=ns) (I.ok.hd hc) (.inl p.isList) (by simpa using hI) (by rw[aP,hlen];exact ay (Nat.succ_lt_succ hl) ∅) λh' tk hS hk _=>?_;exact⟨.ref _,_,I.laid (a:=s.heap.objs.size) (t':=tk) hk (au _) (Jl hS),rfl,q _ (I.bz.fresh (au _))⟩
theorem Y0(hc:X.calm=true):j8 X (.builtin "sorted") (λxs H Q=>∃a ns,xs=[.ref a]/\H a=some (qd X a (ST.d7 [] ns))/\ns.length<60/\∀p,H p=none->Q (.ref p) (upd H p (.lst ((j5 ns).map V.int)))):=by
 intro pins s Z H xs us Q I r h;obtain⟨a,ns,rfl,ha,hl,q⟩:=h;cases r with
 |cons r rr =>
 cases rr;cases r;have hS:ST.n6 X.prog X.w s.heap a (ST.d7 [] ns):=(I.bz a _ ha).1;have hn:=ST.M6 ns [];simp only[List.length_nil] at hn;refine ST.Zg (I.ok.hd hc) hS () λS vs iZ e h' d' iL h1 h2 h3 h4 h5 h6 _=>?_;have e1:iZ=j5 ns:=K9 (h2.trans (S0 ns).symm) h3 (BQ ns);subst e1;have hz:=V5 ns;exact⟨.ref S,_,(I.laid (a:=S) (o:=.lst ((j5 ns).map V.int)) (t':=iL) h6 h5 ⟨by rw[av];exact aA hz (aA (cT hl) ∅),vs,e,BR h1,h4⟩).draw d',rfl,q S (I.bz.fresh h5)⟩
end
end L2
namespace ST
open PySem PyProof.Rows
theorem Rq{prog:Program}{w:World}{A:Around}{E:Value->Shared->Prop}{s:Shared}{a:Addr}{ks:List Int}{k:Int}{tk:Tok}{Q:Value->Shared->Prop}(hS:n6 prog w s.heap a ks)(hr:ks.length+1<scanBound)(h:∀h',Heap.SameBut a s.heap h'->n6 prog w h' a (B0 ks k)->Q .none { s with heap:=h',toks:=s.toks+1 }):wpAny (model prog w) A (call (.builtin "set.add") [.ref a,.int k tk]) Q E s:=by
 have hT:s.TypeIs (.ref a) "set":=let ⟨o,_,_,_,e,x,_⟩:=hS;⟨o,e,x.1⟩
 refine bV F.slot_set_add hT F.entry_set_add ?_ (F.args_set_add_2 _ _);have go:∀(Q':Fin->Shared->Prop),(∀h',Heap.SameBut a s.heap h'->n6 prog w h' a (B0 ks k)->wpAny (model prog w) A.in1 (ret .none) Q' E { s with heap:=h',toks:=s.toks+1 })->wpAny (model prog w) A.in1 (do let _ <- setAdd a (.int k tk);ret .none) Q' E s:=λQ' q=>by
  refine ae (bq (ae ((intKind prog w).pyHash (k:=k) (dW _ _ _ _) ?_)));exact Fm (s:={ s with toks:=s.toks+1 }) hS hr λh' b sb S2=>q h' sb S2
 unfold Builtin.«set.add» Builtin.Frozenset.oneOther;simp only[List.isEmpty_nil,bind_assoc];refine ae (aj ?_);refine ae (aj ?_);exact go _ λh' sb S2=>aj ⟨_,rfl,h h' sb S2⟩
end ST
namespace L2
open PySem PySem.Spec PyProof.Rows
variable{elt iter:Expr}{ifs:List Expr}{scope:Scope}{pos:Pos}
section
variable{prog:Program}{w:World}{A:Around}{R:Result->Shared->Prop}{s:Shared}
theorem Zj(elt target iter:Expr)(ifs:List Expr)(scope:Scope)(pos:Pos)(it acc:Value)(env:Env):compTurn (.SetComp elt [⟨target,iter,ifs,0⟩] scope pos) 0 it acc env=(do
      standAt iter.pos
      match <- pyNext it with
      |none=>pure (.done .next)
      |some v =>
        letOwnedTupleGo target it v
        assign target env v
        let mut ok:=true
        for c in ifs do if ok then ok <- isTrue c env (eval c env)
        if ok then(do let x <- eval elt env;standAt elt.pos;let _ <- call (.builtin "set.add") [acc,x])
        again (.compLoop (.SetComp elt [⟨target,iter,ifs,0⟩] scope pos) 0 it acc env)):=by rfl
theorem aA5{target:Expr}{it acc:Value}{env:Env}(I:Nat->Shared->Prop)(turn:∀ n s,I n s->wpAny (model prog w) A (pyNext it) (λr bp=>match r with
   |none=>R (.ok .next) bp
   | some v=>wpAny (model prog w) A (letOwnedTupleGo target it v) (λ_ bp=>wpAny (model prog w) A (assign target env v) (λ_ ee =>
     wpAny (model prog w) A (forIn ifs true λc r=>if r=true then do let ok <- isTrue c env (eval c env);pure (ForInStep.yield ok) else pure (ForInStep.yield r)) (λok du =>
      if ok=true then wpAny (model prog w) A (eval elt env) (λx eY =>
       wpAny (model prog w) A (call (.builtin "set.add") [acc,x]) (λ_ fQ=>∃ m,m < n/\I m fQ) (λ_ _=>False) eY) (λ_ _=>False) du
      else ∃ m,m < n/\I m du) (λ_ _=>False) ee) (λ_ _=>False) bp) (λ_ _=>False) bp) (λ_ _=>False) s)(n:Nat)(h:I n s) :
  codeAny (model prog w) A (.compLoop (.SetComp elt [⟨target,iter,ifs,0⟩] scope pos) 0 it acc env) R s:=by
 refine codeAny_loop rfl I (λn s hI=>?_) n h;show wpAny _ A ((compTurn (.SetComp elt [⟨target,iter,ifs,0⟩] scope pos) 0 it acc env).onRaise (λx=>do noteFrame x env;theTreesLotGoes x)) _ _ s;refine wpAny_noted ?_;rw[Zj];refine ae (cP (ae (aU (turn n s hI) (λr bp cC=>?_) λ_ _ h'=>h'.elim)));cases r with
 |none=>exact aj cC
 |some v =>
  refine ae (aU cC (λ_ bp cC=>?_) λ_ _ h'=>h'.elim);refine ae (aU cC (λ_ ee fG=>ae (aU fG (λok du jt=>?_) λ_ _ h'=>h'.elim)) λ_ _ h'=>h'.elim);cases ok with
  |false=>exact wpAny_pure ⟨rfl,jt⟩
  |true =>
   exact ae (ae (aU jt (λx eY lN=>ae (cP (ae (aU lN (λ_ fQ lM=>aj (aj ⟨rfl,lM⟩)) λ_ _ h'=>h'.elim)))) λ_ _ h'=>h'.elim))
theorem Zc{target:Expr}{it acc:Value}{env:Env}(h0:codeAny (model prog w) A (.compLoop (.SetComp elt [⟨target,iter,ifs,0⟩] scope pos) 0 it acc env) R s)(h:wpAny (model prog w) A (pyIter it) (λDQ s'=>codeAny (model prog w) A (.compLoop (.SetComp elt [⟨target,iter,ifs,0⟩] scope pos) 0 DQ acc env) R s') (notedBy (model prog w) A env λx s'=>R (.error x) s') s) :
  codeAny (model prog w) A (.compStart (.SetComp elt [⟨target,iter,ifs,0⟩] scope pos) 0 it acc env) R s:=by
 refine so (?_:wpAny _ _ ((compStart (.SetComp elt [⟨target,iter,ifs,0⟩] scope pos) 0 it acc env).onRaise (λx=>do noteFrame x env;standAt theWindowsPlace)) _ _ s);refine wpAny_notedAt ?_;refine ae (oV (wpAny_ite ?_));split
 ·first
   |exact aj ⟨rfl,h0⟩
   |exact ae (aj (aj ⟨rfl,h0⟩))
 ·refine ae (ly ?_);exact ae (cP (ae (aU h (λDQ s' h'=>aj ⟨rfl,h'⟩) λ_ _ x=>x)))
end
def Ka(o:Obj):Prop:=∀v,o.data≠.cell v
def OK(X:Cx)(wi:TI)(c7:List Nat)(n:Nat)(g:TG)(tc:TT)(te:TE):TE:=λZ H Q=>wi Z H λJ H1=>∃W:Nat->Nat->List Int->St->Hp->Prop,(∃m,W 0 m [] (u5 Z c7 n) H1)/\∀i m ys Z H,W i m ys Z H ->
 (J.stop i H/\∀p,H p=none->Q (.ref p) (upd H p (qd X p (ST.d7 [] ys)))) \/
 (J.go i H/\ys.length < 60/\∀ x H',J.mq i H x H'->g x Z H' λcb H2=>tc cb H2 λb H3 =>
  if b=true then te cb H3 λy H4=>∃ k,y=.int k/\∃ m',m' < m/\W (i + 1) m' (ys ++ [k]) cb H4 else ∃ m',m' < m/\W (i + 1) m' ys cb H3)
section
variable{X:Cx}{pins:List (Addr×Obj)}{Z:St}{H:Hp}{s:Shared}
theorem Inv.Ip{D:Addr}{φ:Heap->Prop}(I:Inv X pins Z H s)(f:C4 X pins H D)(hs:X.cV.heap.objs.size<=D)(ho:j4 X.prog X.w (upd H D (.ext φ)) s.heap D (.ext φ)):Inv X pins Z (upd H D (.ext φ)) s:=by
 obtain⟨f0,f1,f2,f3,f4,f5⟩:=f;have fK:∀b o,X.cV.heap.get? b=some o->b≠D:=λb o e z=>absurd (az e) (by simp_all);have tup:∀b u,H b=some u->upd H D (.ext φ) b=some u:=λb u e=>by rw[b9 (d4 e f0)];exact e
 refine⟨I.ok,I.os,I.bare,⟨?_,?_,?_,I.base.there,?_,?_,?_⟩,I.loc,I.cell,?_,?_,?_,?_,I.len,I.sg⟩
 ·exact λb o e n1 n2 n3=>I.base.keep b o e n1 n2 n3
 ·exact λb o e n1 n2 n3=>I.base.slot b o e n1 n2 n3
 ·exact λb o e n1 n2=>by rw[b9 (fK b o e)];exact I.base.free b o e n1 n2
 ·exact λb xs e=>tup _ _ (I.base.gS b xs e)
 ·exact λb o u e=>tup _ _ (I.base.gH b o u e)
 ·exact λb ps e=>by
   obtain⟨more,q⟩:=I.base.gT b ps e;exact⟨more,tup _ _ q⟩
 ·rw[b9 f1.symm];exact I.free
 ·exact λx c e=>by rw[b9 (f4 x c e)];exact I.dS x c e
 ·intro p hp;obtain⟨p1,p2,p3⟩:=I.pin p hp;exact⟨p1,by rw[b9 (f5 p hp)];exact p2,p3⟩
 ·intro a o e;by_cases ha:a=D
  ·subst ha;rw[d8] at e
   simp_all
  ·rw[b9 ha] at e;have q:=I.bz a o e;refine q.A7 (λb u _ h=>h) (λb hb=>tup _ _ hb) (λb xs hb=>tup _ _ hb)
def KS(X:Cx)(a:Addr)(ys:List Int)(h:Heap)(o:Obj):Prop:=ys.length<=60/\Ka o/\h.get? a=some o/\ST.n6 X.prog X.w h a (ST.d7 [] ys)
theorem IJ{n0:Nat}:xT X n0 (KS X) λa ys=>qd X a (ST.d7 [] ys) where
 nc:=λh=>h.2.1
 get:=λh=>h.2.2.1
 A7:=λ⟨h1,h2,h3,h4⟩ e=>⟨h1,h2,e,h4.at λo e'=>by rw[h3] at e';cases e';exact e⟩
 done:=λ_ I f hs ⟨_,_,h3,h4⟩=>I.Ip f hs (Jl h4)
theorem ZH{tg:Expr}{N':List Str}{c7:List Nat}{cl:List (Str×Addr)}{it:Addr}{fp:List Addr}{tn:Nat->Heap->Prop}{J:It}{g:TG}{tc:TT}{te:TE}{RR:Value->Addr->Result->Shared->Prop}{E:Value->Shared->Prop}{W:Nat->Nat->List Int->St->Hp->Prop}{m0:Nat}{Q:VK}(S:cj X scope N' c7 cl)(hc:X.calm=true)(hg:∀C s H,PG (c8 X pins scope N' cl C s H fp) tg g)(ht:∀C s H,iO (c8 X pins scope N' cl C s H fp) ifs tc)(he:∀C s H,PE (c8 X pins scope N' cl C s H fp) elt te)(I:Inv X pins Z H s)(T:Turn X.prog X.w X.K tg J fp it tn)(st:tn 0 s.heap)(hf:∀b∈fp,C4 X pins H b)(w0:W 0 m0 [] (u5 Z c7 N'.length) H)(turn:∀ i m ys Z H,W i m ys Z H->(J.stop i H/\∀ p,H p=none->Q (.ref p) (upd H p (qd X p (ST.d7 [] ys)))) \/
   (J.go i H/\ys.length < 60/\∀ x H',J.mq i H x H'->g x Z H' λcb H2=>tc cb H2 λb H3 =>
    if b=true then te cb H3 λy H4=>∃ k,y=.int k/\∃ m',m' < m/\W (i + 1) m' (ys ++ [k]) cb H4 else ∃ m',m' < m/\W (i + 1) m' ys cb H3))(pM:∀D C s' H' m,Inv X pins Z H' s'->Q (.ref D) H'->s'.heap.Ns C m->H' C=none->s.heap.objs.size<=C->RR (.ref D) C (.ok .next) s') :
  wpAny (model X.prog X.w) X.A (newSet (.type "set")) (λacc du=>wpAny (model X.prog X.w) X.A (newFunctionEnv scope X.env.globals cl [] X.env.qual none .none (some X.env)) (λjd eY =>
   codeAny (model X.prog X.w) X.A (.compStart (.SetComp elt [⟨tg,iter,ifs,0⟩] scope pos) 0 (.ref it) acc { jd with scope:=relabel scope X.env }) (RR acc jd.locals) eY) E du) E s:=by
 refine ST.IU (Q6 λcC fH eh kZ=>?_);dsimp only at fH eh kZ ⊢;have eC:(s.heap.push (ST.u3 X.w)).objs.size=s.heap.objs.size+1:=dn ..
 replace eC:=eC.symm
 have iG:cC.get? s.heap.objs.size=some (ST.u3 X.w):=eh _ _ (ax _ rfl);generalize (s.heap.push (ST.u3 X.w)).objs.size=C at *;refine (λL=>Zc L.2 (T.self _ 0 _ _ _ L.1 L.2)) (Bq (R:=RR (.ref s.heap.objs.size) C) (LP:=codeAny (model X.prog X.w) X.A (.compLoop (.SetComp elt [⟨tg,iter,ifs,0⟩] scope pos) 0 (.ref it) (.ref s.heap.objs.size) (compEnvC scope (v5 scope cl C) C X.env)) (RR (.ref s.heap.objs.size) C)) (tb:=λys Z H P=>te Z H λy H'=>∃ k,y=.int k/\P (ys ++ [k]) H') (env:=compEnvC scope (v5 scope cl C) C X.env)
  (body:=λP du=>wpAny (model X.prog X.w) X.A (eval elt (compEnvC scope (v5 scope cl C) C X.env)) (λx eY=>wpAny (model X.prog X.w) X.A (call (.builtin "set.add") [.ref s.heap.objs.size,x]) (λ_ fQ=>P fQ) (λ_ _=>False) eY) (λ_ _=>False) du)
  IJ S hc (hg C s H) (ht C s H) I T st hf w0 turn (λs' H' m=>pM _ C s' H' m) ⟨_,fH⟩ eh kZ eC ⟨cc _,(λv (z:Data.set _ _ _=_)=>by cases z),iG,ST.GH iG⟩ rfl (λys o eK bT H' s' P R' hz k hb I' q hR=>?_) (λI turn n h=>aA5 I turn n h))
 refine cq (he C s H _ s' bT H' _ I' q) λxv s8 aZ=>?_;obtain⟨y,H8,I8,r8,kk,ey,q8⟩:=aZ;subst ey;obtain⟨tk,rfl⟩:=r8;obtain⟨_,_,_,S8⟩:=(IJ (X:=X) (n0:=0)).A7 k (hb I8);have yB:=ST.M6 ys [];simp only[List.length_nil] at yB;refine ST.Rq S8 (ay (by omega:_<62) ∅) λh' sb S9=>?_;have e9:ST.B0 (ST.d7 [] ys) kk=ST.d7 [] (ys++[kk]):=by unfold ST.d7;rw[List.foldl_append];rfl
 rw[e9] at S9;obtain⟨o9,NP,NQ,t9,g9,x9,d9,r9⟩:=id S9;exact hR s8 H8 _ h' (s8.toks+1) o9 I8 q8 (λb' u hb hu=>by rw[sb.2 b' hb];exact hu) ⟨by rw[dh,vJ];omega,(λv z=>by rw[d9] at z;cases z),g9,S9⟩
theorem Sr{tg:Expr}{N':List Str}{c7:List Nat}{cl:List (Str×Addr)}{wi:TI}{g:TG}{tc:TT}{te:TE}(S:cj X scope N' c7 cl)(hc:X.calm=true)(hi:PI X tg iter wi)(hg:∀pins C s H fp,PG (c8 X pins scope N' cl C s H fp) tg g)(ht:∀pins C s H fp,iO (c8 X pins scope N' cl C s H fp) ifs tc)(he:∀pins C s H fp,PE (c8 X pins scope N' cl C s H fp) elt te)(hs:∀x,foldedSetIterable iter X.env x=pure x):PE X (.SetComp elt [⟨tg,iter,ifs,0⟩] scope pos) (OK X wi c7 N'.length g tc te):=by
 intro pins s Z H Q I h;refine de (use:=none) rfl hs S.lZ S.kind S.names (cq (hi pins s Z H _ I h) λxv bp cC=>cq cC λpF ee fG=>?_);obtain⟨it,fp,tn,J,H2,e,I2,T,iD,f2,W,⟨m0,w0⟩,turn⟩:=fG;subst e;refine ZH (RR:=λacc C=>compPost (model X.prog X.w) X.A X.xe none (EP X pins Z Q) acc C) S hc (λC s H=>hg pins C s H fp) (λC s H=>ht pins C s H fp) (λC s H=>he pins C s H fp) I2 T iD f2 w0 turn ?_;intro D C s' H' m I' q hn hC hsz;exact⟨m,hn,λh' sb=>⟨.ref D,H',I'.Cc hsz I2 hC sb,rfl,q⟩⟩
end
end L2
namespace HT
open PySem PyProof.Rows Builtin
end HT
namespace L2
open PySem PySem.Spec PyProof.Rows
def Px(sep:Str)(ys:List Str):Nat:=ys.foldl (λn y=>n+y.length+sep.length) 0
end L2
namespace HT
open PySem PyProof.Rows Builtin PySem.SeqAt
section
variable{prog:Program}{w:World}{A:Around}{E:Value->Shared->Prop}{s:Shared}
theorem a22:typeLookup (.type "tuple") (dunderI "add")=pure none:=by
 kernel_rfl
theorem RN{t b:Addr}{vs ws:List Value}{Q:Value->Shared->Prop}(ht:IsTup s.heap t vs.toArray)(hb:IsTup s.heap b ws.toArray)(h0:vs=[]->Q (.ref b) s)(h1:ws=[]->Q (.ref t) s)(h2:Q (.ref s.heap.objs.size) { s with heap:=s.heap.push { cls:=.type "tuple",data:=.seq (vs++ws).toArray } })(hsz:vs.length+ws.length<=sizeLine):wpAny (model prog w) A (inplaceOp .Add (.ref t) (.ref b)) Q E s:=by
 obtain⟨⟨cls,dd,data,sl⟩,ho,hc,n,hd⟩:=id ht;obtain⟨⟨uz,oJ,data2,jZ⟩,jS,ow,n2,hd2⟩:=id hb;subst hc hd ow hd2;have e:vs.toArray++ws.toArray=(vs++ws).toArray:=by simp
 refine wpAny_inplaceOp_concat (T:="tuple") ⟨_,ho,rfl⟩ ⟨_,jS,rfl⟩ a22 iA kQ ?_;by_cases hv:vs=[]
 ·subst hv;exact eL oW ⟨_,ho,rfl⟩ mZ (lB _ _) (tuple_addW0 t b #[] ws.toArray n n2 dd oJ sl jZ rfl) ⟨ho,jS,h0 rfl⟩
 by_cases hw:ws=[]
 ·exact eL oW ⟨_,ho,rfl⟩ mZ (lB _ _) (tuple_addW1 t b vs.toArray ws.toArray n n2 dd oJ sl jZ (by simpa using hv) (by simp[hw])) ⟨ho,jS,h1 hw⟩
 ·refine eL oW ⟨_,ho,rfl⟩ mZ (lB _ _) (tuple_addW2 t b vs.toArray ws.toArray n n2 dd oJ sl jZ (by simpa using hv) (by simpa using hw) ()) ⟨ho,jS,?_⟩;rw[e];exact h2
end
end HT
namespace L2
open PySem PySem.Spec PyProof.Rows
section
variable{X:Cx}
def AL(ys:List V)(y:V)(n:Nat):Prop:=ys.all E5=true/\E5 y=true/\(∃z,ys[n]?=some z/\jW z y=true)/\∀(m:Nat) z,m<n->ys[m]?=some z->jW z y=false
theorem Ba:∀{xs:List V} {us:List Value} {i:Nat} (hi:i<us.length),Vals xs us->∃x,xs[i]?=some x/\RelV x us[i]
 |_,_,0,hi,.cons r _=>⟨_,rfl,r⟩
 |_,_,i+1,hi,.cons _ t=>by
  obtain⟨x,h1,h2⟩:=Ba (i:=i) (by simpa using hi) t;exact⟨x,by simpa using h1,by simpa using h2⟩
theorem Kb{xs:List V}(h:xs.all E5=true){i:Nat}{x:V}(e:xs[i]?=some x):E5 x=true:=bP.mp h x (aO e)
theorem a48{ys:List V}{y:V}{n:Nat}{aX:List Value}(F:AL ys y n)(r:Vals ys aX):∃hn:n<aX.toArray.size,lb y aX.toArray[n]=true/\∀m (hm:m<aX.toArray.size),m<n->lb y aX.toArray[m]=false:=by
 obtain⟨fs,fy,⟨z,hz,he⟩,mH⟩:=F;have hl:=r.length;have hn:n<aX.length:=by
  grind
 refine⟨by simpa using hn,?_,λm hm Mn=>?_⟩
 ·obtain⟨x,hx,rx⟩:=Ba hn r;rw[hz] at hx;cases hx;rw[xZ,wK rx (Kb fs hz)];exact he
 ·have tJ:m<aX.length:=by simpa using hm
  obtain⟨x,hx,rx⟩:=Ba tJ r;rw[xZ,wK rx (Kb fs hx)];exact mH m x Mn hx
def Jh(K:PySem.W.Frag):V->List V->Hp->VK->Prop:=λx xs H Q=>∃a ys y n,x=.ref a/\xs=[y]/\eQ K H a ys/\AL ys y n/\n<2 ^ 62/\Q (.int n) H
theorem a24(hu:X.A.units+100<cLine):kn X "list.index" (Jh X.K):=by
 intro pins s Z H x xs v us Q I rx r h;obtain⟨a,ys,y,n,rfl,rfl,hq,W,nD,q⟩:=h;cases rx;cases r with
 |cons ry rr =>
 cases rr;obtain⟨aX,rv,p,hz⟩:=I.list hq;have pt:=p.isList.typeIs;obtain⟨⟨cls,dd,data,sl⟩,k,ho,hc,El,hd⟩:=id p;simp only at hc El hd;subst hc El hd;obtain⟨hn,hit,mH⟩:=a48 W rv;refine eL F.slot_list_index pt F.entry_list_index (F.args_list_index_2 _ _) (SeqAt.list_indexAt a aX.toArray k none sl _ (lb y) n hn () hit mH) ⟨ho,λw hw=>xo ry W.2.1 rv W.1 w (by simpa using hw),⟨.int n,H,I.tok _,⟨_,rfl⟩,q⟩⟩
def AD(K:PySem.W.Frag)(H:Hp)(a:Addr)(xs:List V):Prop :=
 H a=some (.tup xs)\/∃(o:Obj) (aX:Array Value) (n:Nat),K.lookup a=some o/\o.cls=.type "tuple"/\o.dict=none/\o.data=.seq aX n/\aX.size<=sizeLine/\Vals xs aX.toList
theorem AD.sq{K:PySem.W.Frag}{H:Hp}{a:Addr}{xs:List V}(h:AD K H a xs):gY K H a xs:=by
 rcases h with h|⟨o,aX,n,h1,h2,_,h3,h4,h5⟩
 ·exact .inl (.inl h)
 ·exact .inr ⟨o,aX,n,h1,h2,h3,h4,h5⟩
def OG(K:PySem.W.Frag)(to:TE)(t:TA):TE:=λZ H Q=>to Z H λx H1=>∃a xs,x=.ref a/\eQ K H1 a xs/\t Z H1 λys H2=>Jh K x ys H2 Q
theorem Sn{o e:Expr}{es:List Expr}{to:TE}{t:TA}{apos dU:Pos}(hu:X.A.units+100<cLine)(ho:PE X o to)(ha:PA X (e::es) t)(fb:attributeBase o "index" X.env (eval o X.env)=eval o X.env)(jT:((backTo dU (starEach (e :: es) X.env)).all (λx=>!x.1) && (backToKw dU (keywordEach [] X.env)).all (λx=>x.1.isSome)
   && decide ((e :: es).length + ([]:List Keyword).length + (if ([]:List Keyword).isEmpty then 0 else 1) < 30))=true)(eZ:(apos.endLine==dU.line)=true)(hs:starEach (e::es) X.env=(false,eval e X.env)::starEach es X.env)(eE:(backTo dU (starEach es X.env)).any (·.1)=false) :
  PE X (.Call (.Attribute o "index" apos) (e::es) [] dU) (OG X.K to t):=by
 intro pins s Z H Q I h;refine wpAny_Call_method_late fb jT eZ rfl (cq (ho pins s Z H _ I h) λv s1 aZ=>?_);obtain⟨x,H1,I1,r1,q1⟩:=aZ;obtain⟨a,xs,rfl,hq,q1⟩:=q1
 ·cases r1;obtain⟨aX,rv,pl,hz⟩:=I1.list hq;have pt:=pl.isList.typeIs;obtain⟨ob,k,e1,_,e2,_⟩:=id pl;refine⟨"list","list.index",F.plainAttrs_list,F.slot_list_index,F.type_list_index,pt,λb q=>by cases q;exact⟨ob,e1,e2⟩,?_⟩;have hA:=ha dU pins s1 Z H1 _ I1 q1;rw[hs] at hA ⊢;refine iT (by show(false||(backTo dU (starEach es X.env)).any (·.1))=false;rw[eE]<;>rfl) (jN ?_);exact cq hA λus s2 ⟨vs,H2,I2,r2,q2⟩=>a24 hu pins s2 Z H2 (.ref a) vs (.ref a) us Q I2 rfl r2 q2
def VW(K:PySem.W.Frag):V->V->Hp->VK->Prop:=λx y H Q=>(∃i j,x=.int i/\y=.int j/\Q (.int (i+j)) H) \/
 ∃a b xs ys,x=.ref a/\y=.ref b/\gY K H a xs/\gY K H b ys/\xs.length+ys.length<=sizeLine/\(xs=[]->Q (.ref b) H)/\(ys=[]->Q (.ref a) H)/\(∀p,H p=none->Q (.ref p) (upd H p (.tup (xs++ys))))
theorem IL:Ay X .Add (VW X.K):=by
 rintro pins s Z H x y u v Q I rx ry h;rcases h with h|⟨a,b,xs,ys,rfl,rfl,ha,hb,hz,q0,q1,q2⟩
 ·exact WQ pins s Z H x y u v Q I rx ry h
 ·cases rx;cases ry;obtain⟨aX,r1,p1,_⟩:=I.tuple ha;obtain⟨lL,r2,p2,_⟩:=I.tuple hb;refine HT.RN p1 p2 (λz=>⟨.ref b,H,I,rfl,q0 (r1.vd.mp z)⟩) (λz=>⟨.ref a,H,I,rfl,q1 (r2.vd.mp z)⟩) ?_ (by rw[<- r1.length,<- r2.length];exact hz);refine⟨.ref s.heap.objs.size,_,I.laid (t':=s.toks) (o:=.tup (xs++ys)) (λb ob q=>ai _ q) (au _) ?_,rfl,q2 _ (I.bz.fresh (au _))⟩;exact⟨by rw[dh];exact hz,_,r1.append r2,Q5.new _ _⟩
end
end L2
namespace ST
open PySem PyProof.Rows
def Spot(k:Int):Prop:=0<=k/\k<8
structure Own(mask:Nat)(owner:Array (Option Nat))(pre:List Int):Prop where
 sz:owner.size=mask+1
 fwd:∀(i:Nat) (k:Int),pre[i]?=some k->owner[k.toNat]?=some (some i)
 bwd:∀(j i:Nat),owner[j]?=some (some i)->pre[i]?=some (j:Int)
section
variable{prog:Program}{w:World}{a:Addr}
def SJ(prog:Program)(w:World)(h:Heap)(a:Addr)(ks:List Int):Prop :=
 ∃o es ep t,h.get? a=some o/\o.ExactSet/\o.data=.set es ep t/\ElemsOf (intKind prog w) es.toList/\(es.toList.map λe=>toI e.2).Perm ks/\ks.Nodup/\es.size<scanBound/\t.fits es.size=true/\Well (Led w) t/\(ks=[]->7<=t.mask)
theorem n6.toV{h:Heap}{ks:List Int}(x:n6 prog w h a ks)(hn:ks≠[]):SJ prog w h a ks:=by
 obtain⟨o,es,ep,t,h1,h2,h3,h4,h5,h6,h7,h8,h9⟩:=x;exact⟨o,es,ep,t,h1,h2,h3,h4,h5,h6,h7,h8,h9,λz=>absurd z hn⟩
theorem n6.same{h:Heap}{ks us:List Int}(x:n6 prog w h a ks)(hp:ks.Perm us):n6 prog w h a us:=by
 obtain⟨o,es,ep,t,h1,h2,h3,h4,h5,h6,h7⟩:=x;exact⟨o,es,ep,t,h1,h2,h3,h4,h5.trans hp,hp.nodup_iff.mp h6,h7⟩
theorem above:∀n,n<300->7<SetTable.sizeAbove n/\n<SetTable.sizeAbove n/\SetTable.sizeAbove n<=sizeLine:=by decide +kernel
end
end ST
namespace L2
open PySem PySem.Spec PyProof.Rows
variable{X:Cx}
end L2
namespace ST
open PySem PyProof.Rows
theorem aB0:typeLookup (.type "dict") "__len__"=pure (some (.builtin "dict.__len__")):=by rfl
section
variable{prog:Program}{w:World}{A:Around}{E:Value->Shared->Prop}{s:Shared}{a:Addr}{ep:Nat}{K:Type}[DecidableEq K]{knd:PySem.KeyKind prog w K}{kvs:List (K×Value)}
theorem ZT(hh:A.handled=none)(hd:(a==sysModules)=false)(hm:s.heap.DictAt knd a kvs ep)(hz:kvs.length<=10000){Q:List Value->Shared->Prop}(h:∀(vs:List Value) h' iL,vs.length=kvs.length->(∀(i:Nat) v,vs[i]?=some v->∃k x,kvs[i]?=some (k,x)/\knd.is k v=true)->(∀c o,s.heap.get? c=some o->h'.get? c=some o)->s.heap.objs.size<=h'.objs.size->s.toks<=iL->Q vs { s with heap:=h',toks:=iL }) :
  wpAny (model prog w) A (collect (.ref a)) Q E s:=by
 have dq:a<s.heap.objs.size:=hm.lt_size;refine ae (xV (cY F.entry_proto_collect ?_));refine ae (cx ?_);refine aj ⟨fJ F.plain_list_iadd _,cY F.entry_list_iadd ?_⟩;have mL:=hm.push { cls:=.type "list",data:=.seq ([]:List Value).toArray };have zw:(s.heap.push { cls:=.type "list",data:=.seq ([]:List Value).toArray }).get? s.heap.objs.size=some { cls:=.type "list",data:=.seq ([]:List Value).toArray }:=ax _ rfl;have fK:s.heap.objs.size≠a:=bw dq;have h1:Builtin.List.listSameRef (.ref s.heap.objs.size) (.ref a)=false:=by simp[Builtin.List.listSameRef,fK]
 show wpAny _ A.in1 (Builtin.List.listExtendWith (.ref s.heap.objs.size) (.ref a) (.ref s.heap.objs.size)) _ _ _;refine ae (dB (s:={ s with heap:=_ }) mL.dictOf.typeIs ?_);rw[aG (by rw[h1];decide)];refine ae (wpAny_pyIter_dict (s:={ s with heap:=_ }) hd mL ?_);have kc:s.heap.objs.size<(s.heap.push { cls:=.type "list",data:=.seq ([]:List Value).toArray }).objs.size:=by simp
 have MY:((s.heap.push { cls:=.type "list",data:=.seq ([]:List Value).toArray }).push { cls:=.type "dict_keyiterator",data:=.fields #[.ref a,.int 0 0,.int kvs.length 0,.int ep 0] }).IsKeyIter (s.heap.push { cls:=.type "list",data:=.seq ([]:List Value).toArray }).objs.size a 0 kvs.length ep:=⟨_,ax _ rfl,rfl,rfl⟩
 have nG:=mL.push { cls:=.type "dict_keyiterator",data:=.fields #[.ref a,.int 0 0,.int kvs.length 0,.int ep 0] };have he:∀c o,(s.heap.push { cls:=.type "list",data:=.seq ([]:List Value).toArray }).get? c=some o->((s.heap.push { cls:=.type "list",data:=.seq ([]:List Value).toArray }).push { cls:=.type "dict_keyiterator",data:=.fields #[.ref a,.int 0 0,.int kvs.length 0,.int ep 0] }).get? c=some o:=λc o e=>ai _ e;have ox:=he _ _ zw;generalize ((s.heap.push { cls:=.type "list",data:=.seq ([]:List Value).toArray }).push { cls:=.type "dict_keyiterator",data:=.fields #[.ref a,.int 0 0,.int kvs.length 0,.int ep 0] })=h2 at *;generalize hI':(s.heap.push { cls:=.type "list",data:=.seq ([]:List Value).toArray }).objs.size=I at *;refine ae (bq ?_);refine ae (wpAny_specialOf (s:={ s with heap:=h2 }) nG.dictOf.typeIs aB0 ?_);generalize tR:("dict.__len__":String)=yE;dsimp only;rw[show splitId yE=some ("dict","__len__") from by subst tR;decide +kernel];dsimp only;refine ae (fB (s:={ s with heap:=h2 }) (b:=true) nG.dictOf.typeIs (by rfl) ?_);rw[aG ∅];subst tR;rw[aN (by decide +kernel)];refine ae (dB (s:={ s with heap:=h2 }) nG.dictOf.typeIs ?_);refine aj ?_;rw[aN (by decide +kernel)];refine ae (ly ?_);refine ae ?_;show wpAny _ A.in1 (updateSeq s.heap.objs.size (·.push .none) >>= λ_=>updateSeq s.heap.objs.size (·.pop)) _ _ _;refine ae (je (s:={ s with heap:=h2 }) ox rfl ?_);have ub:=aW (Obj.mapSeq (·.push Value.none)) ox rfl;refine je (s:={ s with heap:=_ }) ub rfl ?_;have zu:=aW (Obj.mapSeq (·.pop)) ub rfl;have sL:∀c o,c≠s.heap.objs.size->h2.get? c=some o->((h2.update s.heap.objs.size (Obj.mapSeq (·.push Value.none))).update s.heap.objs.size (Obj.mapSeq (·.pop))).get? c=some o :=
  λc o hc e=>(bW _ _ (bf hc)).trans ((bW _ _ (bf hc)).trans e)
 have MV:I≠s.heap.objs.size:=bw kc;have MQ:a≠I:=aJ (cH dq kc);have W:=(Walks.dictKeys (prog:=prog) (w:=w) (A:=A.in1) (knd:=knd) hh I a MQ kvs ep).toS;have st:h2.IsKeyIter I a 0 kvs.length ep/\h2.DictAt knd a kvs ep:=⟨MY,nG⟩
 have iD:=W.frame 0 ({ s with heap:=h2 }:Shared) _ s.toks st (au _) λc hc o e=>sL c o (λz=>by simp at hc;rcases hc with y|y<;>simp_all) e;refine aj ⟨fJ F.plain_extend_loop _,codeAny_extend_loopS W (aA hz ∅) _ (λz=>by simp at z;rcases z with y|y<;>simp_all) _ kvs.length 0 _ _ _ rfl (cc _) iD zu (ItemsOf.nil _) λs' qk c' hm ki iG=>?_⟩;show wpAny _ A (load s.heap.objs.size >>= _) _ _ s';refine ae (wpAny_load ki ?_);refine aj ?_;have eS:s'={ s with heap:=s'.heap,toks:=s'.toks }:=by
  obtain⟨ia,g',d',iL,pB⟩:=s';have m1:g'=s.gens:=hm.gens;have m2:d'=s.drawn:=hm.drawn;have m3:pB=s.os:=hm.os
  grind
 rw[eS];refine h _ _ s'.toks (by simpa using iG.1) (λi v hv=>iG.2 i v (by simpa using hv)) (λc o e=>?_) (cT (az ki)) hm.toks;have hc:c<s.heap.objs.size:=az e;have n1:c≠s.heap.objs.size:=aJ hc;have n2:c≠I:=aJ (cH hc kc);exact hm.heap c o (by simp[n1,n2]) (sL c o n1 (he c o (ai _ e)))
theorem Pz{i:Int}{v:Value}(h:(L2.f7 prog w).is (.inl i) v=true):∃t,v=.int i t:=by
 rw[L2.Hr] at h;rcases L2.k9 h with⟨j,t,e1,e2⟩|⟨x,t,e1,_⟩
 ·cases e1;exact⟨t,e2⟩
 ·cases e1
theorem ZJ{kvs:List (L2.Key×Value)}{ns:List Int}(hh:A.handled=none)(hd:(a==sysModules)=false)(hm:s.heap.DictAt (L2.f7 prog w) a kvs ep)(hk:kvs.map (·.1)=ns.map Sum.inl)(ED:ns.length<64){Q:Value->Shared->Prop}(h:∀(S:Addr) (vs:List Value) (iZ:List Int) e h' iL,IntsAre vs iZ->iZ.Perm ns->iZ.Pairwise (·<=·)->h'.get? S=some (seqObj "list" vs.toArray e)->s.heap.objs.size<=S->(∀c o,s.heap.get? c=some o->h'.get? c=some o)->s.toks<=iL->Q (.ref S) { s with heap:=h',toks:=iL }) :
  wpAny (model prog w) A (call (.builtin "sorted") [.ref a]) Q E s:=by
 have hl:kvs.length=ns.length:=by simpa using dX List.length hk
 refine gR kind_sorted plain_sorted entry_sorted (args_sorted1 _) ?_;refine ae (m:=checkCount "sorted" 1 1 _) (aj ?_);refine ae (ZT (A:=A.in1) hh hd hm () λvs h1 pe DV hv he kc qG=>?_);have hI:IntsAre vs ns:=by
  have all:∀(i:Nat) v,vs[i]?=some v->∃n tk,ns[i]?=some n/\v=.int n tk:=λi v e=>by
   obtain⟨k,x,h1,h2⟩:=hv i v e;have h3:(kvs.map (·.1))[i]?=some k:=by rw[ah,h1];rfl
   rw[hk,ah,aa] at h3;obtain⟨n,h4,rfl⟩:=h3;obtain⟨tk,e⟩:=Pz h2;exact⟨n,tk,h4,e⟩
  have tK:vs.length=ns.length:=DV.trans hl;clear hv DV hl hk h
  induction vs generalizing ns with
  |nil =>
   cases ns with
   |nil=>exact .nil
   |cons=>simp at tK
  |cons v r ih =>
   cases ns with
   |nil=>simp at tK
   |cons n ns =>
    obtain⟨n',tk,e1,e2⟩:=all 0 v rfl;cases e1;rw[e2];exact .cons n tk (ih (by grind) (λi v e=>all (i+1) v e) (by simpa using tK))
 have qL:vs.length<64:=by omega
 refine ae (KA (s:={ s with heap:=h1,toks:=pe }) ?_);have kF:(h1.push (seqObj "list" vs.toArray 0)).get? h1.objs.size=some (seqObj "list" vs.toArray 0):=ax _ rfl;refine ae (bq (bV (s:={ s with heap:=h1.push (seqObj "list" vs.toArray 0),toks:=pe }) slot_list_sort ⟨_,kF,rfl⟩ entry_list_sort (list_sort_tree kF hI qL λout iZ a1 a2 a3=>⟨_,rfl,?_⟩) (args_list_sort _)));obtain⟨e,pJ⟩:=sortedHeap_at (vs:=vs) (out:=out) kF;refine aj ⟨_,rfl,h h1.objs.size out.toList iZ e _ pe a1 a2 a3 pJ kc (λc o' e'=>?_) qG⟩;have hc:=az (he c o' e');rw[sortedHeap_old (aJ hc) (by rw[size_push'];exact jH hc)];exact ai _ (he c o' e')
end
end ST
namespace L2
open PySem PySem.Spec PyProof.Rows
variable{X:Cx}
theorem V3:∀{ns ks:List Int},(ks++ns).Nodup->ST.d7 ks ns=ks++ns
 |[],ks,_=>by simp[ST.d7]
 |n::r,ks,h=>by
  have hn:n∉ks:=λz=>by
   have:=(dz.mp h).2.2 n z n (by simp);exact this rfl
  have e:ST.B0 ks n=ks++[n]:=by
   unfold ST.B0;rw[aG (by simpa using hn)]
  show ST.d7 (ST.B0 ks n) r=_;rw[e,V3 (by simp_all),jL]
  rfl
theorem Yn(hc:X.calm=true):j8 X (.builtin "sorted") (λxs H Q=>∃a kvs ns,xs=[.ref a]/\H a=some (.dK kvs)/\kvs.map (·.1)=ns.map Sum.inl/\ns.length<60/\∀p,H p=none->Q (.ref p) (upd H p (.lst ((j5 ns).map V.int)))):=by
 intro pins s Z H xs us Q I r h;obtain⟨a,kvs,ns,rfl,ha,hk,hl,q⟩:=h;cases r with
 |cons r rr =>
 cases rr;cases r;obtain⟨_,hd,vs,kv,hD⟩:=rK I.bz ha;obtain⟨ep,hA⟩:=hD.dictAt;have Ee:vs.map (·.1)=ns.map Sum.inl:=kv.keys.symm.trans hk;have Mh:ns.Nodup:=by
  obtain⟨_,_,_,_,_,_,_,_,nd⟩:=id hD;rw[Ee] at nd;exact(dy.mp nd).imp λh e=>h (dX _ e)
 refine ST.ZJ (I.ok.hd hc) hd hA Ee () λS us iZ e h' iL h1 h2 h3 h4 h5 h6 _=>?_;have e1:iZ=j5 ns:=K9 (h2.trans ((S0 ns).trans (by rw[V3 (ks:=[]) Mh];exact .refl _)).symm) h3 (BQ ns);subst e1;have hz:=V5 ns;exact⟨.ref S,_,(I.laid (a:=S) (o:=.lst ((j5 ns).map V.int)) (t':=iL) h6 h5 ⟨by rw[av];exact aA hz (aA (cT hl) ∅),us,e,BR h1,h4⟩),rfl,q S (I.bz.fresh h5)⟩
theorem Zw{aX:List Value}{ns:List Int}(hi:IntsAre aX ns):∃xs,aX.toArray=intItems xs/\ns=xs.toList.map (·.1):=by
 obtain⟨xs,e⟩:=hi.allInts.items;exact⟨xs,e,by rw[<- hi.numsOf,<- nums_intItems,<- e]⟩
theorem a55(hc:X.calm=true):j8 X (.builtin "sum") (λxs H Q=>∃a,∃ns:List Int,xs=[.ref a]/\eQ X.K H a (ns.map V.int)/\Q (.int ns.sum) H):=by
 intro pins s Z H xs us Q I r h;obtain⟨a,ns,rfl,ha,q⟩:=h;obtain⟨u,rfl,ru⟩:=vals1 r;cases ru;obtain⟨aX,rv,p,hz⟩:=I.list ha;obtain⟨xs,e,en⟩:=Zw (M4 rv);refine sum_intListG (xs:=xs) (I.ok.hd hc) (by rw[<- e];exact p.isList) λh' tk t' k=>⟨.int ns.sum,H,I.kept k,⟨t',?_⟩,q⟩
 rw[preSum_eq,sv (by simp),en]
theorem a57(hc:X.calm=true):j8 X (.builtin "all") (λxs H Q=>∃(a:Addr) (ns:List Int),xs=[.ref a]/\eQ X.K H a (ns.map V.int)/\Q (.bl (ns.all λn=>n != 0)) H):=by
 intro pins s Z H xs us Q I r h;obtain⟨a,ns,rfl,ha,q⟩:=h;obtain⟨u,rfl,ru⟩:=vals1 r;cases ru;obtain⟨aX,rv,p,hz⟩:=I.list ha;refine call_all_walk ?_;refine hJ p.isList ?_;have fK:a≠s.heap.objs.size:=by
  obtain⟨o,e,_⟩:=id p.isList;exact aJ (az e)
 have hl:=rv.length;rw[av] at hl;refine⟨s.heap.objs.size,_,_,_,_,_,λi=>ns.getD i 1 != 0,rfl,Walks.list (A:=X.A.in1) (I.ok.hd hc) _ a fK aX.toArray,⟨⟨_,ax _ rfl,rfl,rfl⟩,?_⟩,?_,λh' tk k=>?_⟩
 ·obtain⟨o,e,q1⟩:=id p.isList;exact⟨o,ai _ e,q1⟩
 ·intro i v s' Q' E' hP hQ;have hv:aX[i]?=some v:=by simpa using hP
  have hi:i<ns.length:=by rw[hl];exact(ao.mp hv).1
  obtain⟨u',tD,yq⟩:=rv.get (i:=i) (x:=V.int ns[i]) (by rw[ah,ak hi];rfl);rw[hv] at tD;cases tD;obtain⟨t,rfl⟩:=yq;refine truthy_int ?_;have:ns.getD i 1=ns[i]:=by simp[List.getD,hi]
  dsimp only at hQ;rw[this] at hQ;exact hQ
 ·have e1:(List.range aX.toArray.size).all (λi=>ns.getD i 1 != 0)=ns.all λn=>n != 0:=by
   rw[aP,<- hl];rw[bh];simp only[List.all_eq_true,List.mem_range];constructor
   ·intro hh x hx;obtain⟨i,hi,rfl⟩:=cU.mp hx;have:=hh i hi;simpa[List.getD,hi] using this
   ·intro hh i hi;have:=hh ns[i] (eX hi);simpa[List.getD,hi] using this
  rw[e1];exact ⟨.bl _,H,I.kept (t':=tk) λb o e=>k b o (by
   intro hb;have:b=s.heap.objs.size:=by simpa using hb
   exact absurd (az e) (by rw [this];exact bD _)) (ai _ e),rfl,q⟩
theorem aB6:j8 X (.builtin "len") (λxs H Q=>∃a,∃ks:List Int,xs=[.ref a]/\H a=some (qd X a ks)/\Q (.int ks.length) H):=by
 intro pins s Z H xs us Q I r h;obtain⟨a,ks,rfl,ha,q⟩:=h;obtain⟨u,rfl,ru⟩:=vals1 r;cases ru;have hS:ST.n6 X.prog X.w s.heap a ks:=(I.bz a _ ha).1;obtain⟨o,es,ep,t,e,ex,ed,_,hp,nd,hz,hf,_⟩:=hS;have hl:es.size=ks.length:=by have:=hp.length_eq;simpa using this
 refine call_len_set e ex ed hf (by have:scanBound<2 ^ 62:=∅;omega) ⟨.int ks.length,H,I.tok _,⟨_,by rw[hl]⟩,q⟩
theorem Qp{i:Int}{j:Nat}{p pos:Pos}(lT:PySem.W.kdsCode X.K X.env.code=true):PE X (.Set [.Constant (.int i) j p] 0 pos) (λZ H Q=>∀q,H q=none->Q (.ref q) (upd H q (.set (λk=>decide (k=i)) 1))):=by
 intro pins s Z H Q I h;refine ae (cP ?_);refine ae (PySem.W.kds_main I.fS lT λb=>?_);refine PySem.W.kds_core (ts:=(evalEach [Expr.Constant (.int i) j p] X.env).map λt=>do let v <- t;standAt pos;pure v) (by rfl) (by rfl) (by show 1<=30;decide) (by rfl) λled=>?_;refine PySem.W.kds_all pos _ _ _ ?_;refine wpAny_Constant_int ?_;refine PySem.W.kds_fill_cons ?_;have MW:(s.heap.push { cls:=.type "set",dict:=none,data:=.set #[] 0 (.fresh 0 0 led) }).SetOf (intKind X.prog X.w) s.heap.objs.size (λ_=>false) 0:=(setObjOf_fresh led).setOf (ax _ rfl) ∅;refine bq (ae ((intKind X.prog X.w).pyHash (k:=i) (dW _ _ _ _) ?_));refine wpAny_setAddHashed_of (knd:=intKind X.prog X.w) (dW _ _ _ _) rfl MW ∅ λh' qI ki=>?_;refine PySem.W.kds_fill_nil (by rfl) ?_;have kp:∀b u,s.heap.get? b=some u->h'.get? b=some u:=λb u e=>(qI.2 b (aJ (az e))).trans (ai _ e);exact⟨.ref s.heap.objs.size,_,I.laid (a:=s.heap.objs.size) (o:=.set (λk=>decide (k=i)) 1) kp (au _) (by show Heap.SetOf _ _ _ _ _;simpa using ki),rfl,h _ (I.bz.fresh (au _))⟩
theorem a18:fo X (compareOp .In) (λx y H Q=>∃i a S n,x=.int i/\y=.ref a/\H a=some (.set S n)/\Q (.bl (S i)) H):=by
 intro pins s Z H x y v u Q I rx ry h;obtain⟨i,a,S,n,rfl,rfl,ha,q⟩:=h;obtain⟨t,rfl⟩:=rx;cases ry;exact wpAny_inSet_of (knd:=intKind X.prog X.w) (k:=i) (dW _ _ _ _) rfl (I.bz a _ ha) ⟨.bl (S i),H,I.tok _,rfl,q⟩
theorem aG1:fo X (compareOp .NotIn) (λx y H Q=>∃i a S n,x=.int i/\y=.ref a/\H a=some (.set S n)/\Q (.bl (!S i)) H):=by
 intro pins s Z H x y v u Q I rx ry h;obtain⟨i,a,S,n,rfl,rfl,ha,q⟩:=h;obtain⟨t,rfl⟩:=rx;cases ry;exact wpAny_notInSet_of (knd:=intKind X.prog X.w) (k:=i) (dW _ _ _ _) rfl (I.bz a _ ha) ⟨.bl (!S i),H,I.tok _,rfl,q⟩
theorem YY:kn X "set.add" (λx xs H Q=>∃a i S n,x=.ref a/\xs=[.int i]/\H a=some (.set S n)/\n+1<4096/\Q .bc (upd H a (.set (λk=>S k||decide (k=i)) (if S i then n else n+1)))):=by
 intro pins s Z H x vs v us Q I rx rv h;obtain⟨a,i,S,n,rfl,rfl,ha,hn,q⟩:=h;cases rx;obtain⟨u,rfl,t,rfl⟩:=rv.one;refine call_set_add (knd:=intKind X.prog X.w) (k:=i) (dW _ _ _ _) rfl (I.bz a _ ha) (show n+1<scanBound from hn) λh' qI ki=>?_;obtain⟨o,es,ep,tb,ho,_⟩:=id ki;exact⟨.bc,_,I.write (x:=a) (e:=a) (o:=.set (λk=>S k||decide (k=i)) (if S i then n else n+1)) (by rw[ha];trivial) (.inl rfl) (λb u hb e=>(qI.2 b hb).trans e) ⟨o,ho⟩ ki,rfl,q⟩
def Dd(K:PySem.W.Frag)(a:Addr)(n:Nat):It :=
 ⟨λi H=>∃xs x,eQ K H a xs/\xs.length=n/\i<n/\xs[n-1-i]?=some x,λi H x H'=>H'=H/\∀xs,eQ K H a xs->xs[n-1-i]?=some x,λi H=>n<=i⟩
theorem a76{P:Program}{w:World}{K:PySem.W.Frag}{tg:Expr}(a it:Addr)(n:Nat):Turn P w K tg (Dd K a n) [it] it (λi h=>i<=n/\h.IsRevIter it a ((n:Int)-1-(i:Nat))) where
 mem:=by simp
 obj:=λi h st b hb=>by
  have e:b=it:=by simpa using hb
  subst e;obtain⟨o,e,c,d⟩:=st.2;exact⟨o,e,λv z=>by simp_all⟩
 keep:=λi h h' st k=>⟨st.1,st.2.at λo e=>k it (by simp) o e⟩
 item:=by
  intro X hP hw hK hc i pins s Z H E I hf st hg;subst hP hw hK;obtain⟨xs,x,hq,hn,hi,hx⟩:=hg;obtain⟨aX,rv,p,hz⟩:=I.list hq;obtain⟨u,hu,ru⟩:=rv.get hx;obtain⟨f0,f1,f2,f3,f4,f5⟩:=hf it (by simp);have iD:=st.2;rw[show(n:Int)-1-(i:Nat)=((n-1-i:Nat):Int) by omega] at iD;refine wpAny_pyNext_rev_item iD p.isList (x:=u) (by simpa using hu) λh' kT sb=>?_;have I1:Inv X pins Z H { s with heap:=h' }:=I.turned (t':=s.toks) (λb o hb e=>(sb.2 b hb).trans e) f0 f1 f3 f4 f5;obtain⟨o,e,c,d⟩:=id kT;refine⟨u,rfl,xK (s:={ s with heap:=h' }) e c d ∅ ⟨x,H,I1,ru,⟨rfl,λys hy=>by rw[I.Bi hy hq];exact hx⟩,⟨by omega,?_⟩,λb hb=>(hf b hb).1⟩⟩
  grind
 done:=by
  intro X hP hw hK hc i pins s Z H E I hf st hg;obtain⟨f0,f1,f2,f3,f4,f5⟩:=hf it (by simp);have iD:=st.2;have:n<=i:=hg;rw[show(n:Int)-1-(i:Nat)=-1 by omega] at iD;exact wpAny_pyNext_rev_end (I.ok.hd hc) iD λh' eb=>⟨rfl,I.turned (t':=s.toks) (λb o hb e=>eb b o hb e) f0 f1 f3 f4 f5⟩
 self:=λ_ _ _ _ _ st h=>wpAny_pyIter_revIter st.2 h
theorem boot_reversed:bootBuiltins "reversed"=some (.type "reversed"):=by decide +kernel
theorem XJ{tg l:Expr}{ta:TA}{p pos:Pos}(hg:Gl X "reversed")(hm:X.mg "reversed"=none)(ha:PA X [l] ta)(hs:starEach [l] X.env=[(false,eval l X.env)]) :
  PI X tg (.Call (.Name "reversed" p) [l] [] pos) (λZ H R=>ta Z H λvs H1=>∃a xs,vs=[.ref a]/\eQ X.K H1 a xs/\R (Dd X.K a xs.length) H1):=by
 intro pins s Z H R I h;refine Call_ (M3 I hg hm boot_reversed (bG (cq (ha pos pins s Z H _ I h) λus s1 aZ=>?_) hs rfl));obtain⟨vs,H1,I1,r1,q1⟩:=aZ;obtain⟨a,xs,e,hq,q⟩:=q1;subst e;cases r1 with
 |cons r rr =>
  cases rr;cases r;obtain⟨aX,rv,p,hz⟩:=I1.list hq;refine call_reversed_list p.isList ?_;have hl:=rv.length;have hit:(s1.heap.push (revObj a ((aX.toArray.size:Int)-1))).IsRevIter s1.heap.objs.size a ((xs.length:Int)-1-((0:Nat):Int)):=⟨_,ax _ rfl,rfl,by simp[revObj,hl]⟩
  refine wpAny_pyIter_revIter hit ?_;refine⟨s1.heap.objs.size,[s1.heap.objs.size],_,_,H1,rfl,I1.kept (t':=s1.toks) λb o e=>ai _ e,a76 a _ xs.length,⟨cc _,hit⟩,λb hb=>?_,q⟩;have e:b=s1.heap.objs.size:=by simpa using hb
  subst e;exact I1.Z2 (au _) (I1.bz.fresh (au _))
end L2
namespace ST
open PySem PyProof.Rows
section
variable{prog:Program}{w:World}{A:Around}{E:Value->Shared->Prop}{s:Shared}{a:Addr}
theorem Zf{T:String}{o:Obj}{items:Array Value}{n:Nat}{ns:List Int}(hT:T="list"\/T="tuple")(ho:s.heap.get? a=some o)(hc:o.cls=.type T)(hd:o.data=.seq items n)(hI:IntsAre items.toList ns)(ED:ns.length<60){Q:Value->Shared->Prop}(h:∀(h1:Heap) (vs:List Value) (iZ:List Int) e h',(∀b o',s.heap.get? b=some o'->h1.get? b=some o')->IntsAre vs iZ->iZ.Perm ns->iZ.Pairwise (·<=·)->h'.get? h1.objs.size=some (seqObj "list" vs.toArray e)->(∀c o,h1.get? c=some o->h'.get? c=some o)->Q (.ref h1.objs.size) { s with heap:=h' }) :
  wpAny (model prog w) A (call (.builtin "sorted") [.ref a]) Q E s:=by
 have hl:items.toList.length=ns.length:=xi hI;refine gR kind_sorted plain_sorted entry_sorted (args_sorted1 _) ?_;unfold Builtin.«sorted»;refine ae (m:=checkCount "sorted" 1 1 _) (aj ?_);refine ae (wpAny_collect_seq (A:=A.in1) a hT ho hc hd (λh1 kp=>?_) (by simp at hl;unfold sizeLine;omega));have qL:items.toList.length<64:=by omega
 generalize items.toList=vs at *;refine ae (KA (s:={ s with heap:=h1 }) ?_);have kF:(h1.push (seqObj "list" vs.toArray 0)).get? h1.objs.size=some (seqObj "list" vs.toArray 0):=ax _ rfl;refine ae (bq (bV (s:={ s with heap:=h1.push (seqObj "list" vs.toArray 0) }) slot_list_sort ⟨_,kF,rfl⟩ entry_list_sort (list_sort_tree kF hI qL λout iZ a1 a2 a3=>⟨_,rfl,?_⟩) (args_list_sort _)));obtain⟨e,pJ⟩:=sortedHeap_at (vs:=vs) (out:=out) kF;refine aj ⟨_,rfl,h h1 out.toList iZ e _ kp a1 a2 a3 pJ (λc o' e'=>?_)⟩;have hc:=az e';rw[sortedHeap_old (aJ hc) (by rw[size_push'];exact jH hc)];exact ai _ e'
end
end ST
namespace L2
open PySem PyProof.Rows
def L7(ns:List Int):List Int:=ns.mergeSort (λa b=>decide (a<=b))
theorem Hy(ns:List Int):(L7 ns).Pairwise (·<=·):=by
 have:=qr (le:=λa b:Int=>decide (a<=b)) (λa b c h1 h2=>by simp at *;omega) (λa b=>by simp;omega) ns;exact this.imp λh=>by simpa using h
theorem BP(ns:List Int):(L7 ns).Perm ns:=Dm _ _
section
variable{X:Cx}
theorem Yd:j8 X (.builtin "sorted") (λxs H Q=>∃p,∃ns:List Int,xs=[.ref p]/\(eQ X.K H p (ns.map V.int)\/gY X.K H p (ns.map V.int))/\ns.length<60/\∀l,H l=none->Q (.ref l) (upd H l (.lst ((L7 ns).map V.int)))):=by
 intro pins s Z H xs us Q I r h;obtain⟨p,ns,rfl,hq,hl,q⟩:=h;obtain⟨u,rfl,rx⟩:=vals1 r;cases rx;obtain⟨T,aX,o,n,hT,r',ho,hc,hd⟩:∃T,∃(aX:List Value) (o:Obj) (n:Nat),(T="list"\/T="tuple")/\Vals (ns.map V.int) aX/\s.heap.get? p=some o/\o.cls=.type T/\o.data=.seq aX.toArray n:=by
  rcases hq with hq|hq
  ·obtain⟨aX,r',pl,_⟩:=I.list hq;obtain⟨o,ho,hc,n,hd⟩:=pl.isList;exact⟨_,aX,o,n,.inl rfl,r',ho,hc,hd⟩
  ·obtain⟨aX,r',⟨o,ho,hc,n,hd⟩,_⟩:=I.tuple hq;exact⟨_,aX,o,n,.inr rfl,r',ho,hc,hd⟩
 refine ST.Zf hT ho hc hd (M4 r') hl λh1 vs iZ e h' kp i1 i2 i3 i4 i5=>?_;have e1:iZ=L7 ns:=K9 (i2.trans (BP ns).symm) i3 (Hy ns);subst e1;have I1:Inv X pins Z H { s with heap:=h1 }:=I.kept (t':=s.toks) kp;have hz:(L7 ns).length<=10000:=by rw[(BP ns).length_eq];omega
 exact⟨.ref h1.objs.size,_,(I1.laid (a:=h1.objs.size) (o:=.lst ((L7 ns).map V.int)) (t':=s.toks) i5 (au _) ⟨by rw[av];exact aA hz ∅,vs,e,BR i1,i4⟩),rfl,q _ (I1.bz.fresh (au _))⟩
theorem Hb:∀{ks:List Key} {l:List Value},l.length=ks.length->(∀(i:Nat) v,l[i]?=some v->∃k,ks[i]?=some k/\X6 k v=true)->Vals (ks.map kV) l
 |[],[],_,_=>.nil
 |k::ks,v::l,hl,h=>by
  obtain⟨k',e,hk⟩:=h 0 v rfl;cases e;refine .cons ?_ (Hb (by simpa using hl) λi v e=>h (i+1) v e);rcases k9 hk with⟨i,t,rfl,rfl⟩|⟨x,t,rfl,rfl⟩<;>exact⟨t,rfl⟩
theorem Yc(hc:X.calm=true):j8 X (.type "list") (λxs H Q=>∃a kvs,xs=[.ref a]/\H a=some (.dK kvs)/\kvs.length<=10000/\∀p,H p=none->Q (.ref p) (upd H p (.lst ((kvs.map (·.1)).map kV)))):=by
 intro pins s Z H xs us Q I r h;obtain⟨a,kvs,rfl,ha,hl,q⟩:=h;obtain⟨u,rfl,rx⟩:=vals1 r;cases rx;obtain⟨_,hd,vs,kv,hD⟩:=rK I.bz ha;obtain⟨ep,hA⟩:=hD.dictAt;have qL:vs.length<=10000:=by rw[<- kv.length];exact hl
 refine PySem.W.kdl_call (PySem.W.kdl_dict (kvs:=vs) (ep:=ep) hd) (I.ok.hd hc) hA (aA qL ∅) λh' tk acc c k1 k2 k3=>?_;have hv:Vals ((kvs.map (·.1)).map kV) acc.toList:=by
  refine Hb (by rw[dP,k3.1,av,kv.length]) λi v e=>?_;obtain⟨k,x,e1,e2⟩:=k3.2 i v (by simpa using e);exact⟨k,by rw[kv.keys,ah,e1];rfl,e2⟩
 exact⟨.ref s.heap.objs.size,_,(I.laid (a:=s.heap.objs.size) (o:=.lst ((kvs.map (·.1)).map kV)) (t':=tk) k1 (au _) ⟨by rw[av,av];exact aA hl ∅,acc.toList,c,hv,by simpa using k2⟩),rfl,q _ (I.bz.fresh (au _))⟩
end
end L2
namespace ST
open PySem PyProof.Rows
end ST
namespace L2
open PySem PyProof.Rows
section
variable{X:Cx}
theorem QK{h:Heap}{a:Addr}{ns:List Int}(x:ST.n6 X.prog X.w h a (ST.d7 [] ns)):h.SetOf (intKind X.prog X.w) a (λk=>decide (k∈ns)) (ST.d7 [] ns).length:=by
 obtain⟨o,es,ep,t,ho,hx,hd,lS,hp,hn,hb,hf,hw⟩:=x;refine⟨o,es,ep,t,ho,hx,hd,lS,λk=>?_,hb,hf,by rw[<- hp.length_eq];simp⟩;have mem:k∈ns↔k∈es.toList.map λe=>ST.toI e.2:=by rw[hp.mem_iff,ST.Hq];simp
 rw[cJ,mem];constructor
 ·intro z;obtain⟨e,he,rfl⟩:=aE.mp z;obtain⟨tk,h1,_⟩:=ST.wY lS he;refine⟨e,he,?_⟩;rw[h1];exact dW _ _ _ _
 ·rintro⟨e,he,z⟩;obtain⟨tk,h1,_⟩:=ST.wY lS he;refine aE.mpr ⟨e,he,?_⟩;have h2:(intKind X.prog X.w).is (ST.toI e.2) e.2=true:=by rw[h1];exact dW _ _ _ _
  exact(intKind X.prog X.w).inj _ _ _ h2 z
theorem aB5(hc:X.calm=true):j8 X (.type "set") (λxs H Q=>∃a ns,xs=[.ref a]/\eQ X.K H a (ns.map V.int)/\ns.length<600/\∀p,H p=none->Q (.ref p) (upd H p (.set (λk=>decide (k∈ns)) (ST.d7 [] ns).length))):=by
 intro pins s Z H xs us Q I r h;obtain⟨a,ns,rfl,hq,hl,q⟩:=h;cases r with
 |cons r rr =>
 cases rr;cases r;obtain⟨aX,rv,p,hz⟩:=I.list hq;have hI:=M4 rv;have hlen:=ST.xi hI;refine ST.Jt (ns:=ns) (I.ok.hd hc) (.inl p.isList) (by simpa using hI) (by rw[aP,hlen];exact ay (Nat.succ_lt_succ hl) ∅) λh' tk hS hk _=>?_;exact⟨.ref _,_,I.laid (a:=s.heap.objs.size) (o:=.set (λk=>decide (k∈ns)) (ST.d7 [] ns).length) (t':=tk) hk (au _) (QK hS),rfl,q _ (I.bz.fresh (au _))⟩
end
end L2
namespace L2
open PySem PySem.Spec PyProof.Rows
variable{prog:Program}{w:World}{A:Around}{s:Shared}{kx vx iter tg:Expr}{ifs:List Expr}{scope:Scope}{pos:Pos}{X:Cx}{N':List Str}{c7:List Nat}{g:TG}{tc:TT}{tk tv:TE}
section
variable{R:Result->Shared->Prop}
theorem aB3{target:Expr}{it:Value}{D:Addr}{env:Env}(I:Nat->Shared->Prop)(turn:∀ n s,I n s->wpAny (model prog w) A (pyNext it) (λr bp=>match r with
   |none=>R (.ok .next) bp
   | some v=>wpAny (model prog w) A (letOwnedTupleGo target it v) (λ_ bp=>wpAny (model prog w) A (assign target env v) (λ_ ee =>
     wpAny (model prog w) A (forIn ifs true λc r=>if r=true then do let ok <- isTrue c env (eval c env);pure (ForInStep.yield ok) else pure (ForInStep.yield r)) (λok du =>
      if ok=true then wpAny (model prog w) A (eval kx env) (λkv eY=>wpAny (model prog w) A (eval vx env) (λvv fQ =>
       wpAny (model prog w) A (dictSet D kv vv) (λ_ nj=>∃ m,m < n/\I m nj) (λ_ _=>False) fQ) (λ_ _=>False) eY) (λ_ _=>False) du
      else ∃ m,m < n/\I m du) (λ_ _=>False) ee) (λ_ _=>False) bp) (λ_ _=>False) bp) (λ_ _=>False) s)(n:Nat)(h:I n s) :
  codeAny (model prog w) A (.compLoop (.DictComp kx vx [⟨target,iter,ifs,0⟩] scope pos) 0 it (.ref D) env) R s:=by
 refine codeAny_loop rfl I (λn s hI=>?_) n h;show wpAny _ A ((compTurn (.DictComp kx vx [⟨target,iter,ifs,0⟩] scope pos) 0 it (.ref D) env).onRaise (λx=>do noteFrame x env;theTreesLotGoes x)) _ _ s;refine wpAny_noted ?_;rw[compTurn_dict];refine ae (cP (ae (aU (turn n s hI) (λr bp cC=>?_) λ_ _ h'=>h'.elim)));cases r with
 |none=>exact aj cC
 |some v =>
  refine ae (aU cC (λ_ bp cC=>?_) λ_ _ h'=>h'.elim);refine ae (aU cC (λ_ ee fG=>ae (aU fG (λok du jt=>?_) λ_ _ h'=>h'.elim)) λ_ _ h'=>h'.elim);cases ok with
  |false=>exact wpAny_pure ⟨rfl,jt⟩
  |true =>
   exact ae (ae (aU jt (λkv eY lN=>ae (bq (aU lN (λvv fQ lM=>ae (cP (bq (aU lM (λ_ nj yH=>aj ⟨rfl,yH⟩) λ_ _ h'=>h'.elim)))) λ_ _ h'=>h'.elim))) λ_ _ h'=>h'.elim))
end
def Im(wi:TI)(c7:List Nat)(n:Nat)(g:TG)(tc:TT)(tk tv:TE):TE:=λZ H Q=>wi Z H λJ H1=>∃W:Nat->Nat->List (Key×V)->St->Hp->Prop,(∃m,W 0 m [] (u5 Z c7 n) H1)/\∀i m ys Z H,W i m ys Z H ->
 (J.stop i H/\∀p,H p=none->Q (.ref p) (upd H p (.dK ys))) \/
 (J.go i H/\ys.length < 1000/\∀ x H',J.mq i H x H'->g x Z H' λcb H2=>tc cb H2 λb H3 =>
  if b=true then tk cb H3 λy H4=>∃ k,y=kV k/\tv cb H4 λv H5=>∃ m',m' < m/\W (i + 1) m' (putK ys k v) cb H5 else ∃ m',m' < m/\W (i + 1) m' ys cb H3)
theorem O0{P:Program}{k:Key}{u:Value}(h:(f7 P w).is k u=true):RelV (kV k) u:=by
 rw[Hr] at h;rcases k9 h with⟨j,t,e1,e2⟩|⟨x,t,e1,e2⟩
 ·subst e1 e2;exact⟨t,rfl⟩
 ·subst e1 e2;exact⟨t,rfl⟩
section
variable{pins:List (Addr×Obj)}{Z:St}{H:Hp}
def KDc(X:Cx)(a:Addr)(ys:List (Key×V))(h:Heap)(o:Obj):Prop:=ys.length<=1000/\Ka o/\h.get? a=some o/\∃rs,KV ys rs/\h.DictOf (f7 X.prog X.w) a rs
theorem JA{n0:Nat}(nz:∀D,n0<=D->(D==sysModules)=false):xT X n0 (KDc X) λ_ ys=>.dK ys where
 nc:=λh=>h.2.1
 get:=λh=>h.2.2.1
 A7:=λ⟨h1,h2,h3,rs,h4,h5⟩ e=>⟨h1,h2,e,rs,h4,h5.at λo e'=>by rw[h3] at e';cases e';exact e⟩
 done:=λ{pins Z H s D ys o} hn J4 Ah hs ⟨z3,_,o4,rs,vZ,S4⟩=>by
  have K1:=J4.Ip (φ:=λh=>h.DictOf (f7 X.prog X.w) D rs) Ah hs ⟨S4,⟨_,o4⟩,λh1 h2 x k=>x.at k⟩;have K2:=O6 (t':=s.toks) (h':=s.heap) (ob:=.dK ys) K1 (by rw[d8];exact True.intro) ⟨rfl,λ_ _=>rfl⟩ ⟨_,o4⟩ (uS (aA z3 ∅) (nz D hn) vZ S4);have eu:upd (upd H D (.ext λh=>h.DictOf (f7 X.prog X.w) D rs)) D (.dK ys)=upd H D (.dK ys):=funext λb=>by
   by_cases hb:b=D
   ·rw[hb,d8,d8]
   ·rw[b9 hb,b9 hb,b9 hb]
  rw[eu] at K2;exact K2
theorem HF{cl:List (Str×Addr)}{it:Addr}{fp:List Addr}{tn:Nat->Heap->Prop}{J:It}{RR:Value->Addr->Result->Shared->Prop}{E:Value->Shared->Prop}{W:Nat->Nat->List (Key×V)->St->Hp->Prop}{m0:Nat}{Q:VK}(S:cj X scope N' c7 cl)(hc:X.calm=true)(hg:∀C s H,PG (c8 X pins scope N' cl C s H fp) tg g)(ht:∀C s H,iO (c8 X pins scope N' cl C s H fp) ifs tc)(hk:∀C s H,PE (c8 X pins scope N' cl C s H fp) kx tk)(hv:∀C s H,PE (c8 X pins scope N' cl C s H fp) vx tv)(I:Inv X pins Z H s)(T:Turn X.prog X.w X.K tg J fp it tn)(st:tn 0 s.heap)(hf:∀b∈fp,C4 X pins H b)(w0:W 0 m0 [] (u5 Z c7 N'.length) H)(turn:∀ i m ys Z H,W i m ys Z H->(J.stop i H/\∀ p,H p=none->Q (.ref p) (upd H p (.dK ys))) \/
   (J.go i H/\ys.length < 1000/\∀ x H',J.mq i H x H'->g x Z H' λcb H2=>tc cb H2 λb H3 =>
    if b=true then tk cb H3 λy H4=>∃ k,y=kV k/\tv cb H4 λv H5=>∃ m',m' < m/\W (i + 1) m' (putK ys k v) cb H5 else ∃ m',m' < m/\W (i + 1) m' ys cb H3))(nz:∀D,s.heap.objs.size<=D->(D==sysModules)=false)(pM:∀D C s' H' m,Inv X pins Z H' s'->Q (.ref D) H'->s'.heap.Ns C m->H' C=none->s.heap.objs.size<=C->RR (.ref D) C (.ok .next) s') :
  wpAny (model X.prog X.w) X.A newDict (λacc du=>wpAny (model X.prog X.w) X.A (newFunctionEnv scope X.env.globals cl [] X.env.qual none .none (some X.env)) (λjd eY =>
   codeAny (model X.prog X.w) X.A (.compStart (.DictComp kx vx [⟨tg,iter,ifs,0⟩] scope pos) 0 (.ref it) acc { jd with scope:=relabel scope X.env }) (RR acc jd.locals) eY) E du) E s:=by
 refine cx (Q6 λcC fH eh kZ=>?_);dsimp only at fH eh kZ ⊢;have eC:(s.heap.push { cls:=.type "dict",dict:=none,data:=.dict #[] }).objs.size=s.heap.objs.size+1:=dn ..
 replace eC:=eC.symm
 have iG:cC.get? s.heap.objs.size=some { cls:=.type "dict",dict:=none,data:=.dict #[] }:=eh _ _ (ax _ rfl);have yX:cC.DictOf (f7 X.prog X.w) s.heap.objs.size []:=(Heap.DictOf.new s.heap).at λo e=>eh _ _ e;generalize (s.heap.push { cls:=.type "dict",dict:=none,data:=.dict #[] }).objs.size=C at *;refine (λL=>codeAny_compStart_dict L.2 (T.self _ 0 _ _ _ L.1 L.2)) (Bq (R:=RR (.ref s.heap.objs.size) C) (LP:=codeAny (model X.prog X.w) X.A (.compLoop (.DictComp kx vx [⟨tg,iter,ifs,0⟩] scope pos) 0 (.ref it) (.ref s.heap.objs.size) (compEnvC scope (v5 scope cl C) C X.env)) (RR (.ref s.heap.objs.size) C)) (tb:=λys Z H P=>tk Z H λy H'=>∃ k,y=kV k/\tv Z H' λv H''=>P (putK ys k v) H'') (env:=compEnvC scope (v5 scope cl C) C X.env)
  (body:=λP du=>wpAny (model X.prog X.w) X.A (eval kx (compEnvC scope (v5 scope cl C) C X.env)) (λkv eY=>wpAny (model X.prog X.w) X.A (eval vx (compEnvC scope (v5 scope cl C) C X.env)) (λvv fQ=>wpAny (model X.prog X.w) X.A (dictSet s.heap.objs.size kv vv) (λ_ nj=>P nj) (λ_ _=>False) fQ) (λ_ _=>False) eY) (λ_ _=>False) du)
  (JA nz) S hc (hg C s H) (ht C s H) I T st hf w0 turn (λs' H' m=>pM _ C s' H' m) ⟨_,fH⟩ eh kZ eC ⟨cc _,(λv (z:Data.dict _ _=_)=>by cases z),iG,[],.nil,yX⟩ rfl (λys o eK bT H' s' P R' hz k hb I' q hR=>?_) (λI turn n h=>aB3 I turn n h))
 refine cq (hk C s H _ s' bT H' _ I' q) λxk s7 aZ=>?_;obtain⟨y,H7,I7,r7,kk,ey,q7⟩:=aZ;subst ey;refine cq (hv C s H _ s7 bT H7 _ I7 q7) λxv s8 aZ=>?_;obtain⟨v,H8,I8,r8,q8⟩:=aZ;obtain⟨z3,_,_,rs,vZ,S8⟩:=(JA nz).A7 k (hb I8);refine wpAny_dictSet_pairs (hsz:=by rw[vZ.length.symm];exact aA z3 ∅) (X8 r7) S8 λh' S9 sb=>?_;obtain⟨o9,NP,NQ,g9,x9,d9,r9⟩:=id S9;exact hR s8 H8 _ h' (s8.toks+1) o9 I8 q8 (λb' u hb hu=>by rw[sb.2 b' hb];exact hu) ⟨by have:=P4 ys kk v;omega,(λv z=>by rw[d9] at z;cases z),g9,_,vZ.put kk r8,S9⟩
theorem JH{cl:List (Str×Addr)}{wi:TI}(S:cj X scope N' c7 cl)(hc:X.calm=true)(hi:PI X tg iter wi)(hg:∀pins C s H fp,PG (c8 X pins scope N' cl C s H fp) tg g)(ht:∀pins C s H fp,iO (c8 X pins scope N' cl C s H fp) ifs tc)(hk:∀pins C s H fp,PE (c8 X pins scope N' cl C s H fp) kx tk)(hv:∀pins C s H fp,PE (c8 X pins scope N' cl C s H fp) vx tv)(hs:∀x,foldedSetIterable iter X.env x=pure x):PE X (.DictComp kx vx [⟨tg,iter,ifs,0⟩] scope pos) (Im wi c7 N'.length g tc tk tv):=by
 intro pins s Z H Q I h;rw[arm_eval_DictComp];refine de (use:=none) rfl hs S.lZ S.kind S.names (cq (hi pins s Z H _ I h) λxv bp cC=>cq cC λpF ee fG=>?_);obtain⟨it,fp,tn,J,H2,e,I2,T,iD,f2,W,⟨m0,w0⟩,turn⟩:=fG;subst e;refine HF (RR:=λacc C=>compPost (model X.prog X.w) X.A X.xe none (EP X pins Z Q) acc C) S hc (λC s H=>hg pins C s H fp) (λC s H=>ht pins C s H fp) (λC s H=>hk pins C s H fp) (λC s H=>hv pins C s H fp) I2 T iD f2 w0 turn (λD hD=>beq_false_of_ne (bw (ay I2.big hD))) ?_;intro D C s' H' m I' q hn hC hsz;exact⟨m,hn,λh' sb=>⟨.ref D,H',I'.Cc hsz I2 hC sb,rfl,q⟩⟩
theorem aF4{cl:List (Str×Addr)}{jP px:Pos}{wi:TI}{i:Nat}{x:Str}(S:cj X scope N' c7 cl)(hc:X.calm=true)(hi:PI X tg iter wi)(hg:∀pins C s H fp,PG (c8 X pins scope N' cl C s H fp) tg g)(ht:∀pins C s H fp,iO (c8 X pins scope N' cl C s H fp) ifs tc)(hk:∀pins C s H fp,PE (c8 X pins scope N' cl C s H fp) kx tk)(hv:∀pins C s H fp,PE (c8 X pins scope N' cl C s H fp) vx tv)(hs:∀x,foldedSetIterable iter X.env x=pure x)(hN:X.Nd)(mI:X.N[i]?=some x)(hx:Loc X.env.scope x)(hf:X.fn x=true\/X.env.scope.names.lookup x=some .local) :
  PS X (.Assign [.Name x px] (.DictComp kx vx [⟨tg,iter,ifs,0⟩] scope pos) jP) (rE (Im wi c7 N'.length g tc tk tv) (X9 i)):=by
 intro pins s Z H D I h;have nA:∃b,swapsWith (.DictComp kx vx [⟨tg,iter,ifs,0⟩] scope pos) (some (.Name x px)) jP.line X.env=pure b:=⟨_,rfl⟩
 obtain⟨b,nA⟩:=nA;cases b with
 |false=>exact CH hN mI hx (JH S hc hi hg ht hk hv hs) nA hf pins s Z H D I h
 |true =>
  rw[exec_Assign_Name_used _ _ _ _ nA];refine ae (cP (ae ?_));show wpAny _ X.A (do let _ <- comprehension (.DictComp kx vx [⟨tg,iter,ifs,0⟩] scope pos) scope X.env _ newDict false (eval iter X.env) (some (assign (.Name x px) X.env))) _ _ s;refine ae (aU (de (use:=some (assign (.Name x px) X.env)) (Q:=λ_ s'=>SP X pins D .next s') rfl hs S.lZ S.kind S.names
   (cq (hi pins s Z H _ I h) λxv bp cC=>cq cC λpF ee fG=>?_)) (λ_ s' hq=>aj (aj hq)) λ_ _ e=>e)
  obtain⟨it,fp,tn,J,H2,e,I2,T,iD,f2,W,⟨m0,w0⟩,turn⟩:=fG;subst e;refine HF (Q:=λv H1=>X9 i v Z H1 D.nx) (RR:=λacc C=>compPost (model X.prog X.w) X.A X.xe (some (assign (.Name x px) X.env)) (λ_ s'=>SP X pins D .next s') acc C) S hc (λC s H=>hg pins C s H fp) (λC s H=>ht pins C s H fp) (λC s H=>hk pins C s H fp) (λC s H=>hv pins C s H fp) I2 T iD f2 w0 turn (λD hD=>beq_false_of_ne (bw (ay I2.big hD))) ?_;intro Dl C s' H' m I' q hn hC hsz;show wpAny _ X.A (assign (.Name x px) X.env (.ref Dl)) _ _ _;refine mV (BC I' hN mI hx (v:=.ref Dl) rfl (λs3 I3 ⟨a,sb,ha⟩=>?_) hf);obtain⟨f0,f1,f2,f3,f4,f5⟩:=I2.Z2 (b:=C) (H':=H') hsz hC;have zC:C≠a:=by
   rcases ha with z|z
   ·rw[z];exact f1
   ·exact λz'=>f4 _ _ z z'.symm
  exact⟨m,hn.sameBut sb zC,λh3 yp=>⟨_,H',I3.turned (t':=s3.toks) (λb o hb e=>yp.extBut b o hb e) f0 f1 f3 f4 f5,q⟩⟩
theorem Qo{e:Expr}{T T':TE}(h:PE X e T)(f:∀Z H Q,T' Z H Q->T Z H λx H'=>∃a φ kvs,H' a=some (.ext φ)/\(∀H' h',φ h'->j4 X.prog X.w H' h' a (.dK kvs))/\Q x (upd H' a (.dK kvs))):PE X e T':=by
 intro pins s Z H Q I q;refine cq (h pins s Z H _ I (f Z H Q q)) λv s1 hq=>?_;obtain⟨x,H1,I1,r1,a,φ,kvs,ha,yI,q1⟩:=hq;obtain⟨p1,p2,_⟩:=I1.bz a _ ha;exact⟨x,_,O6 (t':=s1.toks) (h':=s1.heap) I1 (by rw[ha];exact True.intro) ⟨rfl,λ_ _=>rfl⟩ p2 (yI _ _ p1),r1,q1⟩
theorem KV.at{kvs:List (Key×V)}{vs:List (Key×Value)}(r:KV kvs vs):∀{i:Nat} {k:Key} {x:V},kvs[i]?=some (k,x)->∃u,vs[i]?=some (k,u)/\RelV x u:=by
 unfold KV at r
 induction r with
 |nil=>intro i k x h;simp at h
 |cons h r ih =>
  intro i k x e;cases i with
  |zero =>
   simp at e;subst e;obtain⟨h1,h2⟩:=h;exact ⟨_,by
    show some _=some (k,_);have zZ:k=_:=h1;rw [zZ],h2⟩
  |succ i=>simpa using ih (by simpa using e)
theorem Zt:entryFor table "dict_itemiterator.__iter__"=some Builtin.«dict_keyiterator.__iter__» :=
 xW (id':="dict_keyiterator.__iter__") (by kernel_rfl) rfl (by decide +kernel) (by kernel_rfl)
def Kv(φ:Heap->Prop)(a:Addr)(kvs:List (Key×V)):It :=
 ⟨λi H=>H a=some (.ext φ)/\i<kvs.length,λi H v H'=>∃p k x,H p=none/\v=.ref p/\kvs[i]?=some (k,x)/\H'=upd H p (.tup [kV k,x]),λi H=>H a=some (.ext φ)/\kvs.length<=i⟩
theorem Zh{P:Program}{K:PySem.W.Frag}{elts:List Expr}{x1:Nat}{tp:Pos}(a it:Addr){kvs:List (Key×V)}(vs:List (Key×Value))(ep:Nat)(rel:KV kvs vs) :
  Turn P w K (.Tuple elts x1 tp) (Kv (λh=>h.DictAt (f7 P w) a vs ep) a kvs) [it] it (λi h=>∃ok ov,IsItemIter h it a i vs.length ep ok ov) where
 mem:=by simp
 obj:=λi h st b hb=>by
  obtain⟨ok,ov,h1⟩:=st;have z:b=it:=by simpa using hb
  subst z;exact ⟨_,h1,λv z=>by
   have z':Data.fields _=Data.cell v:=z;cases z'⟩
 keep:=λi h h' st k=>by
  obtain⟨ok,ov,h1⟩:=st;exact⟨ok,ov,k it (by simp) _ h1⟩
 item:=by
  intro X hP hw hK hc i pins s Z H E I hf st hg;subst hP hw hK;obtain⟨ok,ov,h1⟩:=st;obtain⟨ha,hi⟩:=hg;have hm:s.heap.DictAt (f7 X.prog X.w) a vs ep:=(I.bz a _ ha).1;obtain⟨k,x,hx⟩:∃k x,kvs[i]?=some (k,x):=⟨_,_,ak hi⟩
  obtain⟨u,hu,ru⟩:=rel.at hx;obtain⟨f0,f1,f2,f3,f4,f5⟩:=hf it (by simp);refine wpAny_pyNext_items_item h1 hm hu λkey h' kG ho ht hz hk=>?_;refine⟨_,rfl,wpAny_letOwnedTupleGo_items ho λh2 Mx gG=>?_⟩;have gG:Heap.SameBut it h' h2:=gG;have elt:it<s.heap.objs.size:=az h1;have kp:∀b o,b≠it->s.heap.get? b=some o->h2.get? b=some o:=λb o b1 q=>(gG.2 b b1).trans (hk b o b1 q);have hn:H s.heap.objs.size=none:=I.bz.fresh (au _);have pb:h2.get? s.heap.objs.size=some { cls:=.type "tuple",data:=.seq #[key,u] }:=(gG.2 _ (bw elt)).trans ht;have ne:∀b u',H b=some u'->b≠it:=λb u' q z=>by rw[z,f0] at q;cases q
  have bz:fA X.prog X.w (upd H s.heap.objs.size (.tup [kV k,x])) h2:=λb o q=>by
   by_cases hb:b=s.heap.objs.size
   ·subst hb;rw[d8] at q;cases q;exact⟨by show 2<=sizeLine;decide,[key,u],.cons (O0 kG) (.cons ru .nil),_,pb,rfl,⟨_,rfl⟩,rfl⟩
   ·rw[b9 hb] at q;refine(I.bz b o q).A7 (λc v hc q'=>?_) (λc q'=>by rw[b9 (d4 q' hn)];exact q') λc ys q'=>by rw[b9 (d4 q' hn)];exact q'
    rcases hc with z|z
    ·subst z;exact kp _ _ (ne _ _ q) q'
    ·exact kp _ _ (ne _ _ z) q'
  have I2:Inv X pins Z (upd H s.heap.objs.size (.tup [kV k,x])) { s with heap:=h2 }:=by
   refine I.step (g':=s.gens) (d':=s.drawn) (t':=s.toks) (ch:=[it]) (λb hb=>?_) (λb o _ _ hb q _=>kp b o (λz=>hb (by simp[z])) q) (λb o _ _ hb q _=>⟨o.slots,kp b o (λz=>hb (by simp[z])) q⟩)
    (λb o _ q n=>by rw[b9 (aJ (az q))];exact n) (λb o hb q=>⟨o,kp b o (λz=>hb (by simp[z])) q⟩)
    (λb ys q=>by rw[b9 (d4 q hn)];exact q) (λb o' ys q=>by rw[b9 (d4 q hn)];exact q) (λb ps q=>⟨#[],by rw[b9 (d4 q hn),q];simp⟩) (λm hm=>?_) bz I.bare
   ·have z:b=it:=by simpa using hb
    subst z;exact⟨f3,f1,f4,f5⟩
   ·obtain⟨o,es,ep,ho,r⟩:=hm;exact⟨o,es,ep,kp _ o (bf f1) ho,r⟩
  refine⟨.ref s.heap.objs.size,_,I2,rfl,⟨s.heap.objs.size,k,x,hn,rfl,hx,rfl⟩,⟨key,u,Mx⟩,λb hb=>?_⟩;have z:b=it:=by simpa using hb
  subst z;rw[b9 (aJ elt)];exact f0
 done:=by
  intro X hP hw hK hc i pins s Z H E I hf st hg;subst hP hw hK;obtain⟨ok,ov,h1⟩:=st;obtain⟨ha,hi⟩:=hg;have hm:s.heap.DictAt (f7 X.prog X.w) a vs ep:=(I.bz a _ ha).1;obtain⟨f0,f1,f2,f3,f4,f5⟩:=hf it (by simp);exact wpAny_pyNext_items_end (I.ok.hd hc) h1 hm (ba (by rw[<- rel.length];exact hi)) λh' eb=>⟨rfl,I.turned (t':=s.toks) (λb o hb e=>eb b o hb e) f0 f1 f3 f4 f5⟩
 self:=λ_ _ s _ _ st h=>by
  obtain⟨ok,ov,h1⟩:=st;have hT:s.TypeIs (.ref it) "dict_itemiterator":=⟨_,h1,rfl⟩
  refine mU hT jg (bV jg hT Zt ?_ (PySem.F.args_dict_itemiterator_iter_1 _));show wpAny _ _ (ret (.ref it)) _ _ s;exact aj ⟨_,rfl,"dict_itemiterator",_,hT,PySem.F.slot_dict_itemiterator_next.lookup,h⟩
theorem Su{o:Expr}{td:TE}{apos tp:Pos}{elts:List Expr}{x1:Nat}(ho:PE X o td)(fb:attributeBase o "items" X.env (eval o X.env)=eval o X.env)(eZ:(apos.endLine==pos.line)=true) :
  PI X (.Tuple elts x1 tp) (.Call (.Attribute o "items" apos) [] [] pos) (λZ H R=>td Z H λv H1=>∃a kvs,v=.ref a/\H1 a=some (.dK kvs)/\∀φ:Heap->Prop,(∀H' h',φ h'->j4 X.prog X.w H' h' a (.dK kvs))->R (Kv φ a kvs) (upd H1 a (.ext φ))):=by
 intro pins s Z H R I h;refine wpAny_Call_method (T:="dict") (id:="dict.items") fb rfl eZ qq qp PySem.F.type_dict_items (cq (ho pins s Z H _ I h) λu s1 aZ=>?_);obtain⟨x,H1,I1,rx,a,kvs,ex,ha,q⟩:=aZ;subst ex;obtain rfl:u=Value.ref a:=rx;obtain⟨z,hd,vs,rel,dd⟩:=rK I1.bz ha;refine⟨dd.typeIs,dd.mapOf.noDict,?_⟩;show wpAny _ _ (callWith pos (.builtin "dict.items") [.ref a] [] []) _ _ s1;refine method_meetsIn qp PySem.F.entry_dict_items rfl (Dj ⟨rfl,dd.typeIs,PySem.F.args_dict_items_1 _,_,meets_dict_items (f7 X.prog X.w) a hd,⟨vs,dd⟩,?_⟩);obtain⟨o1,es,ep,r1⟩:=dd;have hm:s1.heap.DictAt (f7 X.prog X.w) a vs ep:=⟨o1,es,r1⟩
 have qK:=hm.push { cls:=.type "dict_items",data:=.fields #[.ref a] };have kc:(s1.heap.push { cls:=.type "dict_items",data:=.fields #[.ref a] }).objs.size=s1.heap.objs.size+1:=dn ..;refine wpAny_pyIter_items (v:=s1.heap.objs.size) ⟨_,ax _ rfl,rfl,rfl⟩ qK ?_;have kp:∀b o,s1.heap.get? b=some o->((s1.heap.push { cls:=.type "dict_items",data:=.fields #[.ref a] }).push { cls:=.type "dict_itemiterator",data:=.fields #[.none,.bool false,.ref a,.int 0 0,.int vs.length 0,.int ep 0,.none,.none] }).get? b=some o:=λb o e=>ai _ (ai _ e);have I2:=I1.kept (t':=s1.toks) kp;have tI:=qK.push { cls:=.type "dict_itemiterator",data:=.fields #[.none,.bool false,.ref a,.int 0 0,.int vs.length 0,.int ep 0,.none,.none] };have hit:IsItemIter ((s1.heap.push { cls:=.type "dict_items",data:=.fields #[.ref a] }).push { cls:=.type "dict_itemiterator",data:=.fields #[.none,.bool false,.ref a,.int 0 0,.int vs.length 0,.int ep 0,.none,.none] }) (s1.heap.push { cls:=.type "dict_items",data:=.fields #[.ref a] }).objs.size a 0 vs.length ep .none .none:=ax _ rfl;obtain⟨o3,es3,g3,r3⟩:=id tI;have I3:=O6 (t':=s1.toks) (ob:=.ext λh=>h.DictAt (f7 X.prog X.w) a vs ep) I2 (by rw[ha];exact True.intro) ⟨rfl,λ_ _=>rfl⟩ ⟨_,g3⟩ ⟨tI,⟨_,g3⟩,λh1 h2 ⟨o,es,e,r⟩ k=>⟨o,es,k o e,r⟩⟩;refine⟨_,[_],_,_,_,rfl,I3,Zh a _ vs ep rel,⟨_,_,hit⟩,λb hb=>?_,q _ λH' h' e=>uS z hd rel (let ⟨o,es,e⟩:=e;⟨o,es,ep,e⟩)⟩;have z:b=(s1.heap.push { cls:=.type "dict_items",data:=.fields #[.ref a] }).objs.size:=by simpa using hb
 have iN:s1.heap.objs.size<=b:=by rw[z,kc];exact iB _
 refine I1.Z2 iN ?_;rw[b9 (bw (ay hm.lt_size iN))];exact I1.bz.fresh iN
end
def Gu:List Int->List Int->Bool
 |x::xs,y::ys=>if x=y then Gu xs ys else decide (x<y)
 |_,_=>false
end L2
namespace M
open PySem L2
set_option genInjectivity true in
inductive D where
 |bc|bl (b:Bool)|int (i:Int)|str (x:Str)|ty (n:String)|ref (i:Nat)|tup (l:List D)
set_option genInjectivity true in
inductive O where
 |lst (l:List D)|nL (l:List D)
 |bC (kvs:List (Key×D))
 |ins (c:Str) (fs:List (Str×D))
 |set (S:Int->Bool) (n:Nat)
def O.mut:O->Bool
 |.nL _=>false
 |_=>true
def U6:D->Option Key
 |.int i=>some (.inl i)
 |.str x=>some (.inr x)
 |_=>none
def m5(kvs:List (Key×D))(k:Key):Option D:=(kvs.find? λkv=>decide (kv.1=k)).map (·.2)
def putD(kvs:List (Key×D))(k:Key)(v:D):List (Key×D) :=
 if(kvs.any λkv=>decide (kv.1=k))=true then kvs.map (λkv=>if kv.1=k then(kv.1,v) else kv) else kvs++[(k,v)]
def i6(f:Str)(v:D):List (Str×D)->List (Str×D)
 |[]=>[(f,v)]
 |(g,x)::r=>if g=f then(g,v)::r else(g,x)::i6 f v r
def P2:List D->Str->Option D
 |.tup [.str y,v]::r,x=>if x=y then some v else P2 r x
 |_::_,_=>none
 |[],_=>none
def FE:List D->Option Str
 |[]=>some Str.empty
 |.str x::r=>(FE r).map λy=>x++y
 |_=>none
structure Xn where
 cls:Str
noncomputable abbrev G:=List O
noncomputable abbrev S:=List (Option D)
noncomputable abbrev KD:=D->G->Prop
noncomputable abbrev KX:=Xn->G->Prop
noncomputable abbrev iJ:KX:=λ_ _=>False
def Cu:Option O->Option (List D)
 |some (.lst l)=>some l
 |some (.nL l)=>some l
 |_=>none
noncomputable abbrev c9(g:G)(a:Nat):Option (List D):=Cu g[a]?
def rd(g:G):Nat->D->Option PyData
 |_,.bc=>some .none
 |_,.bl b=>some (.bool b)
 |_,.int i=>some (.int i)
 |_,.str x=>some (.str x)
 |_,.ty _=>none
 |0,.ref _=>none
 |0,.tup _=>none
 |n+1,.ref a=>match c9 g a with
  |some l=>(l.mapM (rd g n)).map .list
  |none=>none
 |n+1,.tup l=>(l.mapM (rd g n)).map .tuple
def Le(g:G)(l:List D):Option (List PyData):=l.mapM (rd g 6)
def D9(g:G):D->Option (List D)
 |.tup l=>some l
 |.ref a=>c9 g a
 |_=>none
def T1:D->Bool
 |.bc=>true
 |_=>false
def cut{α:Type}(xs:List α)(lo hi:Option Int):List α:=(xs.drop (HT.dG xs.length 0 lo)).take (HT.dG xs.length xs.length hi-HT.dG xs.length 0 lo)
def qb(g:G)(x:D)(c:String):Option Bool:=match x with
 |.bc=>some (c=="NoneType")
 |.bl _=>some (c=="bool"||c=="int")
 |.int _=>some (c=="int")
 |.str _=>some (c=="str")
 |.tup _=>some (c=="tuple")
 |.ref a=>match g[a]? with
  |some (.lst _)=>some (c=="list")
  |_=>none
 |.ty _=>none
def z9(lo:Int)(n:Nat):List D:=(List.range n).map λ(k:Nat)=>.int (lo+k)
def Y1:List D->Option Bool
 |[]=>some true
 |.bl b::r=>(Y1 r).map λc=>b&&c
 |_=>none
inductive Pr where
 |bin (op:Operator)|un (op:UnaryOp)|cmp (op:CmpOp)
 |ix|nk (lo hi:Bool)|rev|tup|lst|R7
 |len|list|tuple|isin|all|max|min|int|str|lI|lH|sset|La|ur
 |NH|Ab|lX|fv|Ae|fld (f:Str)
 |append|pop|get|index|join|iadd|clear|pA|extend|any|dR|sum|Z1|nv|jo|pE|lY|kL|ir|jn (i:Int)
noncomputable abbrev DR:=List D->G->D->G->Prop
def Yl:Operator->Int->Int->Int->Prop
 |.Add,i,j,r=>r=i+j
 |.Sub,i,j,r=>r=i-j
 |.Mult,i,j,r=>pX i j/\r=i*j
 |.FloorDiv,i,j,r=>Ax i j/\r=i / j
 |.Mod,i,j,r=>0<j/\r=i % j
 |.Pow,i,j,r=>Z7 i j/\r=i ^ j.toNat
 |.LShift,i,j,r=>Z7 i j/\r=i*2 ^ j.toNat
 |.BitAnd,i,j,r=>r=Builtin.bitAnd i j
 |.BitOr,i,j,r=>r=Builtin.bitOr i j
 |_,_,_,_=>False
def SS(op:Operator):DR:=λxs g d g' =>
 (∃i j r,xs=[.int i,.int j]/\Yl op i j r/\d=.int r/\g'=g) \/
 (op=.Add/\((∃ l m,xs=[.tup l,.tup m]/\l.length + m.length <= 100000/\d=.tup (l ++ m)/\g'=g) \/
  (∃a b l m,xs=[.ref a,.ref b]/\g[a]?=some (.lst l)/\g[b]?=some (.lst m)/\l.length+m.length<=100000/\d=.ref g.length/\g'=g++[.lst (l++m)]) \/
  False))
def KP(op:UnaryOp):DR:=λxs g d g'=>op=.USub/\∃i,xs=[.int i]/\d=.int (-i)/\g'=g
def uk(g:G)(x y:D)(b:Bool):Prop :=
 (∃i j,x=.int i/\y=.int j/\b=decide (i=j))\/(∃i j,x=.bl i/\y=.bl j/\b=(i==j))\/(∃i j,x=.str i/\y=.str j/\b=decide (i=j)) \/
 ∃p q,rd g 6 x=some p/\rd g 6 y=some q/\p.canLay0=true/\q.canLay0=true/\b=PyData.eqv p q
def inR(g:G)(x y:D)(b:Bool):Prop :=
 (∃a kvs c,y=.ref a/\g[a]?=some (.bC kvs)/\U6 x=some c/\b=(m5 kvs c).isSome) \/
 ∃l ps p,D9 g y=some l/\Le g l=some ps/\rd g 6 x=some p/\PyData.canLayAll0 ps=true/\p.canLay0=true/\b=(ps.any λq=>PyData.eqv q p)
def Fc(g:G)(x y:D)(b:Bool):Prop:=∃a S n i,y=.ref a/\g[a]?=some (.set S n)/\x=.int i/\b=S i
def Gi(g:G)(x y:D)(b:Bool):CmpOp->Prop
 |.Eq=>uk g x y b
 |.NotEq=>uk g x y (!b)
 |.In=>inR g x y b\/Fc g x y b
 |.NotIn=>inR g x y (!b)\/Fc g x y (!b)
 |.Lt=>∃i j,x=.int i/\y=.int j/\b=decide (i<j)
 |.LtE=>∃i j,x=.int i/\y=.int j/\b=decide (i<=j)
 |.Gt=>∃i j,x=.int i/\y=.int j/\b=decide (j<i)
 |.GtE=>∃i j,x=.int i/\y=.int j/\b=decide (j<=i)
 |.Is=>y=.bc/\b=T1 x
 |.IsNot=>y=.bc/\b=!T1 x
def SY(op:CmpOp):DR:=λxs g d g'=>∃x y b,xs=[x,y]/\Gi g x y b op/\d=.bl b/\g'=g
def Ff(g:G)(x:D)(b:Bool):Prop :=
 False\/x=.bl b\/(∃i,x=.int i/\b=(i != 0))\/False
def LD:DR:=λxs g d g'=>g'=g/\((∃x l i,xs=[x,.int i]/\D9 g x=some l/\iH l i=some d)\/(∃a kvs y c,xs=[.ref a,y]/\g[a]?=some (.bC kvs)/\U6 y=some c/\m5 kvs c=some d) \/
 False)
def sI(x:D)(lo hi:Option Int)(g:G)(d:D)(g':G):Prop:=(∃l,x=.tup l/\d=.tup (cut l lo hi)/\g'=g)\/∃a l,x=.ref a/\c9 g a=some l/\d=.ref g.length/\g'=g++[.lst (cut l lo hi)]
def Uh:Bool->Bool->DR
 |false,false,xs,g,d,g'=>∃x,xs=[x]/\sI x none none g d g'
 |true,false,xs,g,d,g'=>∃x i,xs=[x,.int i]/\sI x (some i) none g d g'
 |false,true,xs,g,d,g'=>∃x j,xs=[x,.int j]/\sI x none (some j) g d g'
 |true,true,xs,g,d,g'=>∃x i j,xs=[x,.int i,.int j]/\sI x (some i) (some j) g d g'
def Ub:DR:=λxs g d g'=>(∃l,xs=[.tup l]/\d=.tup l.reverse/\g'=g)\/∃a l,xs=[.ref a]/\c9 g a=some l/\d=.ref g.length/\g'=g++[.lst l.reverse]
def Uz:DR:=λxs g d g'=>xs.length<=1000/\d=.tup xs/\g'=g
def Tp:DR:=λxs g d g'=>xs.length<=1000/\d=.ref g.length/\g'=g++[.lst xs]
def rh:List D->List (Key×D)->Option (List (Key×D))
 |[],kvs=>some kvs
 |k::v::r,kvs=>(U6 k).bind λc=>rh r (putD kvs c v)
 |_,_=>none
def UZ:DR:=λxs g d g'=>xs=[]/\d=.ref g.length/\g'=g++[.bC []]
def Tj:DR:=λxs g d g'=>g'=g/\((∃x l,xs=[x]/\D9 g x=some l/\d=.int l.length)\/(∃a kvs,xs=[.ref a]/\g[a]?=some (.bC kvs)/\d=.int kvs.length)\/False)
def kD:Key->D
 |.inl i=>.int i
 |.inr x=>.str x
def Vu:DR:=λxs g d g'=>(∃x l,xs=[x]/\D9 g x=some l/\d=.ref g.length/\g'=g++[.lst l])\/∃a kvs,xs=[.ref a]/\g[a]?=some (.bC kvs)/\kvs.length<=10000/\d=.ref g.length/\g'=g++[.lst ((kvs.map (·.1)).map kD)]
def OP:DR:=λxs g d g'=>∃x l,xs=[x]/\D9 g x=some l/\d=.tup l/\g'=g
def Vi:DR:=λxs g d g'=>∃x c b,xs=[x,.ty c]/\c∈["int","bool","str","tuple","list"]/\qb g x c=some b/\d=.bl b/\g'=g
def allR:DR:=λxs g d g'=>∃a l b,xs=[.ref a]/\c9 g a=some l/\(Y1 l=some b\/∃ns:List Int,l=ns.map .int/\b=ns.all λn=>n != 0)/\d=.bl b/\g'=g
def Fn:List D->Option Bool
 |[]=>some false
 |.bl b::r=>(Fn r).map λc=>b||c
 |_=>none
def anyR:DR:=λxs g d g'=>∃a l b,xs=[.ref a]/\c9 g a=some l/\Fn l=some b/\d=.bl b/\g'=g
def Ov:DR:=λxs g d g'=>(∃a kvs ns,xs=[.ref a]/\g[a]?=some (.bC kvs)/\kvs.map (·.1)=ns.map Sum.inl/\ns.length<60/\d=.ref g.length/\g'=g++[.lst ((j5 ns).map .int)])\/∃x,∃ns:List Int,xs=[x]/\D9 g x=some (ns.map .int)/\ns.length<60/\d=.ref g.length/\g'=g++[.lst ((L7 ns).map .int)]
def Tq:DR:=λxs g d g'=>g'=g/\((∃i j,xs=[.int i,.int j]/\d=.int (if j>i then j else i))\/∃a,∃(ns:List Int) (M:Int),xs=[.ref a]/\c9 g a=some (ns.map .int)/\M∈ns/\(∀x∈ns,x<=M)/\d=.int M)
def Tr:DR:=λxs g d g'=>g'=g/\((∃i j,xs=[.int i,.int j]/\d=.int (if j<i then j else i))\/(∃a,∃(ns:List Int) (M:Int),xs=[.ref a]/\c9 g a=some (ns.map .int)/\M∈ns/\(∀x∈ns,M<=x)/\d=.int M)\/∃a b,∃(ns ms:List Int),xs=[.ref a,.ref b]/\g[a]?=some (.lst (ns.map .int))/\g[b]?=some (.lst (ms.map .int))/\ms.length=ns.length/\d=if L2.Gu ms ns then .ref b else .ref a)
def VZ:DR:=λxs g d g'=>∃a i S n,xs=[.ref a,.int i]/\g[a]?=some (.set S n)/\n+1<4096/\d=.bc/\g'=g.set a (.set (λk=>S k||decide (k=i)) (if S i then n else n+1))
def Vt:DR:=λxs g d g'=>∃a,∃ns:List Int,xs=[.ref a]/\c9 g a=some (ns.map .int)/\ns.length<600/\d=.ref g.length/\g'=g++[.set (λk=>decide (k∈ns)) (ST.d7 [] ns).length]
def Ob(i:Int):DR:=λxs g d g'=>xs=[]/\d=.ref g.length/\g'=g++[.set (λk=>decide (k=i)) 1]
def Uj:DR:=λxs g d g'=>∃a,∃ns:List Int,xs=[.ref a]/\c9 g a=some (ns.map .int)/\d=.int ns.sum/\g'=g
def Vv:DR:=λxs g d g'=>∃a,∃ns:List Int,xs=[.ref a]/\c9 g a=some (ns.map .int)/\ns.length<60/\d=.int (ST.d7 [] ns).length/\g'=g
def Vj:DR:=λxs g d g'=>∃i j,xs=[.int i,.int j]/\d=.int (i-j)/\g'=g
def Th:DR:=λxs g d g'=>g'=g/\((∃i,xs=[.int i]/\d=.int i)\/∃b,xs=[.bl b]/\d=.int (if b then 1 else 0))
def Ui:DR:=λxs g d g'=>(∃i,xs=[.int i]/\i.natAbs.log2<1920/\d=.str (toString i)/\g'=g)\/∃x,xs=[.str x]/\d=.str x/\g'=g
def Xd:DR:=λxs g d g'=>∃j,xs=[.int j]/\-(2 ^ 62)<=j/\j<=100000/\d=.ref g.length/\g'=g++[.lst (z9 0 j.toNat)]
def Xe:DR:=λxs g d g'=>∃i j,xs=[.int i,.int j]/\(-(2 ^ 62)<=i/\i<2 ^ 62/\-(2 ^ 62)<=j/\j<2 ^ 62/\j-i<=100000)/\d=.ref g.length/\g'=g++[.lst (z9 i (j-i).toNat)]
def Wb:DR:=λxs g d g'=>∃a ns,xs=[.ref a]/\c9 g a=some (ns.map .int)/\ns.length<60/\d=.ref g.length/\g'=g++[.lst ((j5 ns).map .int)]
def Uk:DR:=λxs g d g'=>∃ns ms:List Int,xs=[.tup (ns.map .int),.tup (ms.map .int)]/\(∀k∈ns,ST.Spot k)/\(∀k∈ms,ST.Spot k)/\ns.length+ms.length<50/\d=.ref g.length/\g'=g++[.lst ((j5 (ns++ms)).map .int)]
def Gp(neg:Bool):DR:=λxs g d g'=>∃kvs x,xs=[.tup kvs,.str x]/\d=.bl (xor neg (P2 kvs x).isSome)/\g'=g
def Vd:DR:=λxs g d g'=>∃kvs x,xs=[.tup kvs,.str x]/\P2 kvs x=some d/\g'=g
def NM:DR:=λxs g d g'=>g'=g/\((∃i,xs=[.int i]/\i.natAbs.log2<1920/\d=.str (toString i))\/∃x,xs=[.str x]/\x.length<=2000/\d=.str x)
def Vc:DR:=λxs g d g'=>∃x,FE xs=some x/\d=.str x/\g'=g
def Td(f:Str):DR:=λxs g d g'=>∃a c fs,xs=[.ref a]/\g[a]?=some (.ins c fs)/\fs.lookup f=some d/\g'=g
def appendR:DR:=λxs g d g'=>∃a y l,xs=[.ref a,y]/\g[a]?=some (.lst l)/\l.length<100000/\d=.bc/\g'=g.set a (.lst (l++[y]))
def TN:DR:=λxs g d g'=>∃a i l k,xs=[.ref a,.int i]/\g[a]?=some (.lst l)/\-(2 ^ 63)<=i/\i<2 ^ 63/\seqIndex? i l.length=some k/\l[k]?=some d/\g'=g.set a (.lst (l.eraseIdx k))
def Tf:DR:=λxs g d g'=>∃a y z kvs c,xs=[.ref a,y,z]/\g[a]?=some (.bC kvs)/\U6 y=some c/\d=(m5 kvs c).getD z/\g'=g
def xJ:D->Bool
 |.bc=>true
 |.bl _=>true
 |.int _=>true
 |.str _=>true
 |_=>false
def toV:D->V
 |.bl b=>.bl b
 |.int i=>.int i
 |.str x=>.str x
 |_=>.bc
def wH(l:List D)(y:D)(n:Nat):Prop:=l.all xJ=true/\xJ y=true/\(∃z,l[n]?=some z/\jW (toV z) (toV y)=true)/\∀(m:Nat) z,m<n->l[m]?=some z->jW (toV z) (toV y)=false
def WR:DR:=λxs g d g'=>∃x y l n,xs=[x,y]/\D9 g x=some l/\wH l y n/\l.length<=100000/\d=.int n/\g'=g
def joinR:DR:=λxs g d g'=>∃sep a ys,xs=[.str sep,.ref a]/\c9 g a=some (ys.map .str)/\Px sep ys<=100000/\d=.str (Builtin.Str.glued sep ys)/\g'=g
def Vg:DR:=λxs g d g'=>(∃i j,xs=[.int i,.int j]/\d=.int (i+j)/\g'=g)\/∃l m,xs=[.tup l,.tup m]/\l.length+m.length<=100000/\d=.tup (l++m)/\g'=g
def WI:DR:=λxs g d g'=>∃a l,xs=[.ref a]/\g[a]?=some (.lst l)/\d=.bc/\g'=g.set a (.lst [])
def VQ:DR:=λxs g d g'=>∃a l,xs=[.ref a]/\g[a]?=some (.lst (l++[d]))/\g'=g.set a (.lst l)
def Pk:DR:=λxs g d g'=>∃a b l m,xs=[.ref a,.ref b]/\g[a]?=some (.lst l)/\g[b]?=some (.lst m)/\l.length+m.length<=100000/\d=.bc/\g'=g.set a (.lst (l++m))
def WK:DR:=λxs g d g'=>False\/∃a,∃ks:List Int,xs=[.ref a]/\c9 g a=some (ks.map λk=>.tup [.int k,.bl true])/\ks.length<=1000/\ks.Nodup/\d=.ref g.length/\g'=g++[.bC (ks.map λk=>(.inl k,.bl true))]
def kK(p:Key×Int×Int):Key×D:=(p.1,.tup [.int p.2.1,.int p.2.2])
def X7(n:Int)(p:Key×Int×Int):Bool:=!(decide (p.2.1=n)||decide (p.2.2=n))
def UY:DR:=λxs g d g'=>∃a n,∃fs:List (Key×Int×Int),xs=[.ref a,.int n]/\g[a]?=some (.bC (fs.map kK))/\fs.length<1000/\(fs.map (·.1)).Nodup/\d=.ref g.length/\g'=g++[.bC ((fs.filter (X7 n)).map kK)]
def oN(ns:List Int):List (Key×D):=ns.zipIdx.map λp=>(.inl p.1,.int p.2)
def UX:DR:=λxs g d g'=>∃a,∃ns:List Int,xs=[.ref a]/\g[a]?=some (.lst (ns.map .int))/\ns.length<1000/\ns.Nodup/\d=.ref g.length/\g'=g++[.bC (oN ns)]
def delD(kvs:List (Key×D))(k:Key):List (Key×D):=kvs.filter λkv=>decide (kv.1≠k)
def U':DR:=λxs g d g'=>∃a y kvs c,xs=[.ref a,y]/\g[a]?=some (.bC kvs)/\U6 y=some c/\m5 kvs c=some d/\g'=g.set a (.bC (delD kvs c))
def PR:Pr->DR
 |.lY=>UY
 |.kL=>UX
 |.ir=>U'
 |.clear=>WI
 |.any=>anyR
 |.sum=>Uj
 |.jo=>VZ
 |.pE=>Vt
 |.jn i=>Ob i
 |.Z1=>Vv
 |.nv=>Vj
 |.dR=>Ov
 |.extend=>Pk
 |.pA=>VQ
 |.ur=>WK
 |.bin op=>SS op
 |.un op=>KP op
 |.cmp op=>SY op
 |.ix=>LD
 |.nk a b=>Uh a b
 |.rev=>Ub
 |.tup=>Uz
 |.lst=>Tp
 |.R7=>UZ
 |.len=>Tj
 |.list=>Vu
 |.tuple=>OP
 |.isin=>Vi
 |.all=>allR
 |.max=>Tq
 |.min=>Tr
 |.int=>Th
 |.str=>Ui
 |.lI=>Xd
 |.lH=>Xe
 |.sset=>Wb
 |.La=>Uk
 |.NH=>Gp false
 |.Ab=>Gp true
 |.lX=>Vd
 |.fv=>NM
 |.Ae=>Vc
 |.fld f=>Td f
 |.append=>appendR
 |.pop=>TN
 |.get=>Tf
 |.index=>WR
 |.join=>joinR
 |.iadd=>Vg
def cF(p:Pr)(xs:List D)(g:G)(Q:KD):Prop:=∃d g',PR p xs g d g'/\Q d g'
def qW(g:G)(x y:D)(k:Bool->Prop):Prop:=∃b,uk g x y b/\k b
def mD(g:G)(x y:D)(k:Bool->Prop):Prop:=∃b,inR g x y b/\k b
def oQ(g:G)(x:D)(k:Bool->Prop):Prop:=∃b,Ff g x b/\k b
def Ug(x y v:D)(g g':G):Prop:=(∃a i l j,x=.ref a/\y=.int i/\g[a]?=some (.lst l)/\mz l.length i=some j/\g'=g.set a (.lst (l.set j v))) \/
 ∃a kvs c,x=.ref a/\g[a]?=some (.bC kvs)/\U6 y=some c/\kvs.length<100000/\g'=g.set a (.bC (putD kvs c v))
def Y4(x y v:D)(g:G)(k:G->Prop):Prop:=∃g',Ug x y v g g'/\k g'
def FQ(f:Str)(cs:List Str)(x v:D)(g g':G):Prop:=∃a c fs,x=.ref a/\g[a]?=some (.ins c fs)/\c∈cs/\fs.length<100/\g'=g.set a (.ins c (i6 f v fs))
def uL(f:Str)(cs:List Str)(x v:D)(g:G)(k:G->Prop):Prop:=∃g',FQ f cs x v g g'/\k g'
def kY:Pr->D->G->Prop
 |.get,x,g=>∃a kvs,x=.ref a/\g[a]?=some (.bC kvs)
 |.ir,x,g=>∃a kvs,x=.ref a/\g[a]?=some (.bC kvs)
 |.join,x,g=>∃y,x=.str y
 |.jo,x,g=>∃a S n,x=.ref a/\g[a]?=some (.set S n)
 |.index,x,g=>∃a l,x=.ref a/\c9 g a=some l
 |_,x,g=>∃a l,x=.ref a/\c9 g a=some l
inductive IK where
 |fix (l:List D)|lst (a:Nat)|nM (a:Nat)|qy (a n:Nat)
def IK.at:IK->Nat->G->Option (Option D)
 |.fix l,i,_=>some l[i]?
 |.lst a,i,g=>match c9 g a with
  |some l=>some l[i]?
  |none=>none
 |.nM a,i,g=>match c9 g a with
  |some l=>some (l[i]?.map λd=>.tup [.int i,d])
  |none=>none
 |.qy a n,i,g=>match c9 g a with
  |some l=>if l.length=n then some (if i<n then l[n-1-i]? else none) else none
  |none=>none
inductive MT where
 |one (i:Nat)|many (is:List Nat)
def P9:List Nat->List D->S->Option S
 |[],[],Z=>some Z
 |i::is,d::ds,Z=>P9 is ds (Z.set i (some d))
 |_,_,_=>none
def jh(t:MT)(x:D)(Z:S)(k:S->Prop):Prop:=match t with
 |.one i=>k (Z.set i (some x))
 |.many is=>∃l bT,x=.tup l/\P9 is l Z=some bT/\k bT
set_option genInjectivity false in
set_option genSizeOf false in
inductive ME where
 |var (i:Nat)|lit (d:D)
 |nil|cons (a b:ME)|prim (p:Pr) (es:ME)|dI (p:Pr) (o es:ME)|mR (es:ME)
 |chain (o1 o2:CmpOp) (a b c:ME)
 |dC (a b:ME)|gX (a b:ME)|cO (a:ME)|ite (c a b:ME)
 |call (f:Nat) (es:ME)|make (c:Str) (f:Nat) (es:ME)|bo (m:Str) (cs:List (Str×Nat)) (o es:ME)
 |comp (c7:List Nat) (n:Nat) (tg:MT) (it cond elt:ME)|gp (c7:List Nat) (n:Nat) (tg:MT) (it cond elt:ME)
 |eN (e:ME)|fk (a:ME)|ja (a b:ME)|jQ (e:ME)|mB (e:ME)|dQ (e:ME)|no
noncomputable abbrev eB:=Nat->List D->G->KD->KX->Prop
def K5(Z:S)(c7:List Nat)(n:Nat):S:=c7.map (λj=>(Z[j]?).join)++List.replicate (n-c7.length) none
def turns(k:IK)(Z:S)(g:G)(fin:S->G->Prop)(turn:D->(S->G->Prop)->S->G->Prop):Prop :=
 ∃W:Nat->Nat->S->G->Prop,(∃m,W 0 m Z g)/\∀i m Z g,W i m Z g->(k.at i g=some none/\fin Z g)\/∃x,k.at i g=some (some x)/\∃N2:S->G->Prop,(∀bT g',N2 bT g'->∃m',m'<m/\W (i+1) m' bT g')/\turn x N2 Z g
def CL(k:IK)(Z:S)(g:G)(fin:List D->G->Prop)(turn:D->(Option D->S->G->Prop)->S->G->Prop):Prop :=
 ∃W:Nat->Nat->List D->S->G->Prop,(∃m,W 0 m [] Z g)/\∀i m ys Z g,W i m ys Z g->(k.at i g=some none/\fin ys g) \/
  ∃x,k.at i g=some (some x)/\ys.length<100000/\turn x (λy bT g'=>∃m',m'<m/\W (i+1) m' (ys++y.toList) bT g') Z g
def CM(k:IK)(Z:S)(g:G)(fin:List Int->G->Prop)(turn:D->(Option Int->S->G->Prop)->S->G->Prop):Prop :=
 ∃W:Nat->Nat->List Int->S->G->Prop,(∃m,W 0 m [] Z g)/\∀i m ys Z g,W i m ys Z g->(k.at i g=some none/\ys.length<60/\fin ys g) \/
  ∃x,k.at i g=some (some x)/\ys.length<60/\turn x (λy bT g'=>∃m',m'<m/\W (i+1) m' (ys++y.toList) bT g') Z g
mutual
noncomputable def aS(P:eB):ME->S->G->KD->KX->Prop
 |.var i,Z,g,Q,_=>∃d,Z[i]?=some (some d)/\Q d g
 |.lit d,_,g,Q,_=>Q d g
 |.prim p es,Z,g,Q,E=>fc P es Z g (λxs g1=>cF p xs g1 Q) E
 |.dI p o es,Z,g,Q,E=>aS P o Z g (λx g1=>kY p x g1/\fc P es Z g1 (λxs g2=>cF p (x::xs) g2 Q) E) E
 |.mR es,Z,g,Q,E=>fc P es Z (g++[.bC []]) (λxs g1=>∃kvs,rh xs []=some kvs/\xs.length<=30/\g1[g.length]?=some (.bC [])/\Q (.ref g.length) (g1.set g.length (.bC kvs))) E
 |.chain o1 o2 a b c,Z,g,Q,E=>aS P a Z g (λx g1=>aS P b Z g1 (λy g2=>cF (.cmp o1) [x,y] g2 λz g3=>∃t,z=.bl t/\if t=true then aS P c Z g3 (λw g4=>cF (.cmp o2) [y,w] g4 Q) E else Q (.bl false) g3) E) E
 |.dC a b,Z,g,Q,E=>aS P a Z g (λx g1=>∃t,x=.bl t/\if t=true then aS P b Z g1 Q E else Q (.bl false) g1) E
 |.gX a b,Z,g,Q,E=>aS P a Z g (λx g1=>∃t,x=.bl t/\if t=true then Q (.bl true) g1 else aS P b Z g1 Q E) E
 |.cO a,Z,g,Q,E=>aS P a Z g (λx g1=>∃t,x=.bl t/\Q (.bl (!t)) g1) E
 |.ite c a b,Z,g,Q,E=>dF P c Z g (λt g1=>if t=true then aS P a Z g1 Q E else aS P b Z g1 Q E) E
 |.call f es,Z,g,Q,E=>fc P es Z g (λxs g1=>P f xs g1 Q E) E
 |.make c f es,Z,g,Q,E=>fc P es Z g (λxs g1=>P f (.ref g1.length::xs) (g1++[.ins c []]) (λd g2=>d=.bc/\Q (.ref g1.length) g2) E) E
 |.bo m cs o es,Z,g,Q,E=>aS P o Z g (λx g1=>∃a c fs f,x=.ref a/\g1[a]?=some (.ins c fs)/\fs.lookup m=none/\cs.lookup c=some f/\fc P es Z g1 (λxs g2=>P f (x::xs) g2 Q E) E) E
 |.comp c7 n tg it cond elt,Z,g,Q,E=>gb P it Z g (λk g1=>CL k (K5 Z c7 n) g1 (λys g=>Q (.ref g.length) (g++[.lst ys])) λx N Z g=>jh tg x Z λcb=>dF P cond cb g (λb g3=>if b=true then aS P elt cb g3 (λy g4=>N (some y) cb g4) iJ else N none cb g3) iJ) E
 |.gp c7 n tg it cond elt,Z,g,Q,E=>gb P it Z g (λk g1=>CM k (K5 Z c7 n) g1 (λys g=>Q (.ref g.length) (g++[.lst ((j5 ys).map .int)])) λx N Z g=>jh tg x Z λcb=>dF P cond cb g (λb g3=>if b=true then aS P elt cb g3 (λy g4=>∃j,y=.int j/\N (some j) cb g4) iJ else N none cb g3) iJ) E
 |.nil,_,_,_,_=>False
 |.cons _ _,_,_,_,_=>False
 |.eN _,_,_,_,_=>False
 |.fk _,_,_,_,_=>False
 |.ja _ _,_,_,_,_=>False
 |.jQ _,_,_,_,_=>False
 |.mB _,_,_,_,_=>False
 |.dQ _,_,_,_,_=>False
 |.no,_,_,_,_=>False
noncomputable def fc(P:eB):ME->S->G->(List D->G->Prop)->KX->Prop
 |.nil,_,g,Q,_=>Q [] g
 |.cons a b,Z,g,Q,E=>aS P a Z g (λx g1=>fc P b Z g1 (λxs g2=>Q (x::xs) g2) E) E
 |_,_,_,_,_=>False
noncomputable def dF(P:eB):ME->S->G->(Bool->G->Prop)->KX->Prop
 |.dC a b,Z,g,Q,E=>dF P a Z g (λt g1=>if t=true then dF P b Z g1 Q E else Q false g1) E
 |.gX a b,Z,g,Q,E=>dF P a Z g (λt g1=>if t=true then Q true g1 else dF P b Z g1 Q E) E
 |.cO a,Z,g,Q,E=>dF P a Z g (λt g1=>Q (!t) g1) E
 |.no,_,g,Q,_=>Q true g
 |.dQ e,Z,g,Q,E=>aS P e Z g (λx g1=>oQ g1 x λb=>Q b g1) E
 |_,_,_,_,_=>False
noncomputable def gb(P:eB):ME->S->G->(IK->G->Prop)->KX->Prop
 |.eN e,Z,g,R,E=>aS P e Z g (λx g1=>(∃l,x=.tup l/\R (.fix l) g1)\/∃a l,x=.ref a/\c9 g1 a=some l/\R (.lst a) g1) E
 |.fk a,Z,g,R,E=>aS P a Z g (λx g1=>∃j:Int,x=.int j/\-(2 ^ 62)<=j/\j<2 ^ 62/\R (.fix (z9 0 j.toNat)) g1) E
 |.ja a b,Z,g,R,E=>aS P a Z g (λx g1=>aS P b Z g1 (λy g2=>∃i j:Int,x=.int i/\y=.int j/\(-(2 ^ 62)<=i/\i<2 ^ 62/\-(2 ^ 62)<=j/\j<2 ^ 62)/\R (.fix (z9 i (j-i).toNat)) g2) E) E
 |.jQ e,Z,g,R,E=>aS P e Z g (λx g1=>∃a l,x=.ref a/\c9 g1 a=some l/\R (.nM a) g1) E
 |.mB e,Z,g,R,E=>aS P e Z g (λx g1=>∃a l,x=.ref a/\c9 g1 a=some l/\R (.qy a l.length) g1) E
 |_,_,_,_,_=>False
end
set_option genInjectivity false in
set_option genSizeOf false in
inductive MS where
 |pass|seq (a b:MS)|expr (e:ME)|set (i:Nat) (e:ME)|mr (t:MT) (e:ME)|cN (o i v:ME)|fC (f:Str) (cs:List Str) (o v:ME)
 |jx (f:Str) (cs:List Str) (o v:ME)|jw (i:Nat) (p:Pr) (v:ME)|vR (o1 i1 o2 i2 e:ME)
 |ifs (c:ME) (a b:MS)|eF (t:MT) (it:ME) (b:MS)|iU (c:ME) (b:MS)|ret (e:ME)|pq|brk|cont
 |raise (x:Str) (es:ME)|nU (b:MS) (hs:List (Str×ME))
structure Ends where
 nx:S->G->Prop
 rt:KD
 bk:S->G->Prop:=λ_ _=>False
 ct:S->G->Prop:=λ_ _=>False
def kA(P:eB)(N:Ends)(Z:S)(E:KX):List (Str×ME)->KX
 |[],x,g=>E x g
 |(y,e)::r,x,g=>if x.cls=y\/y="MintError" then aS P e Z g N.rt iJ else kA P N Z E r x g
def wpS(P:eB):MS->Ends->S->G->KX->Prop
 |.pass,N,Z,g,_=>N.nx Z g
 |.seq a b,N,Z,g,E=>wpS P a { N with nx:=λhZ g1=>wpS P b N hZ g1 E } Z g E
 |.expr e,N,Z,g,E=>aS P e Z g (λ_ g1=>N.nx Z g1) E
 |.set i e,N,Z,g,E=>aS P e Z g (λx g1=>N.nx (Z.set i (some x)) g1) E
 |.mr t e,N,Z,g,E=>aS P e Z g (λx g1=>jh t x Z λhZ=>N.nx hZ g1) E
 |.cN o i v,N,Z,g,E=>aS P v Z g (λx g1=>aS P o Z g1 (λy g2=>aS P i Z g2 (λz g3=>Y4 y z x g3 λg4=>N.nx Z g4) E) E) E
 |.fC f cs o v,N,Z,g,E=>aS P v Z g (λx g1=>aS P o Z g1 (λy g2=>uL f cs y x g2 λg3=>N.nx Z g3) E) E
 |.jx f cs o v,N,Z,g,E=>aS P o Z g (λy g1=>∃a c fs x,y=.ref a/\g1[a]?=some (.ins c fs)/\c∈cs/\fs.lookup f=some x/\aS P v Z g1 (λz g3=>cF .iadd [x,z] g3 λw g4=>∃iw,g4[a]?=some (.ins c iw)/\iw.length<100/\N.nx Z (g4.set a (.ins c (i6 f w iw)))) E) E
 |.vR o1 i1 o2 i2 e,N,Z,g,E=>aS P e Z g (λx g1=>∃u v,x=.tup [u,v]/\aS P o1 Z g1 (λy1 g2=>aS P i1 Z g2 (λz1 g3=>Y4 y1 z1 u g3 λg4=>aS P o2 Z g4 (λy2 g5=>aS P i2 Z g5 (λz2 g6=>Y4 y2 z2 v g6 λg7=>N.nx Z g7) E) E) E) E) E
 |.jw i p v,N,Z,g,E=>∃x,Z[i]?=some (some x)/\aS P v Z g (λz g1=>cF p [x,z] g1 λw g2=>N.nx (Z.set i (some w)) g2) E
 |.ifs c a b,N,Z,g,E=>dF P c Z g (λt g1=>if t=true then wpS P a N Z g1 E else wpS P b N Z g1 E) E
 |.eF t it b,N,Z,g,E=>gb P it Z g (λk g1=>turns k Z g1 N.nx λx N2 Z g=>jh t x Z λcb=>wpS P b { N with nx:=N2,ct:=N2,bk:=N.nx } cb g E) E
 |.iU c b,N,Z,g,E=>∃W:Nat->S->G->Prop,(∃m,W m Z g)/\∀m Z g,W m Z g->dF P c Z g (λt g1=>if t=true then ∃N2:S->G->Prop,(∀bT g',N2 bT g'->∃m',m'<m/\W m' bT g')/\wpS P b { N with nx:=N2,ct:=N2,bk:=N.nx } Z g1 E else N.nx Z g1) E
 |.ret e,N,Z,g,E=>aS P e Z g N.rt E
 |.pq,N,_,g,_=>N.rt .bc g
 |.brk,N,Z,g,_=>N.bk Z g
 |.cont,N,Z,g,_=>N.ct Z g
 |.raise x es,_,Z,g,E=>fc P es Z g (λvs g1=>vs.length<=1000/\E ⟨x⟩ g1) E
 |.nU b hs,N,Z,g,E=>wpS P b N Z g (kA P N (Z.map λ_=>none) E hs)
structure aK where
 ar:Nat
 n:Nat
 body:MS
def b5(m:aK)(ds:List D):S:=ds.map some++List.replicate (m.n-ds.length) none
def b0(T:Nat->Option aK):Nat->eB
 |0,_,_,_,_,_=>False
 |k+1,f,ds,g,Q,E=>∃m,T f=some m/\ds.length=m.ar/\wpS (b0 T k) m.body ⟨λ_ g'=>Q .bc g',Q,λ_ _=>False,λ_ _=>False⟩ (b5 m ds) g E
end M
namespace M
open PySem L2
variable{g:G}{K:PySem.W.Frag}{H:Hp}{a p:Addr}{vs:List V}{i:Nat}{o:O}{u:HO}{l:List D}
theorem m8{p xs}{Q Q':KD}(h:∀d g,Q d g->Q' d g)(q:cF p xs g Q):cF p xs g Q':=by
 obtain⟨d,g',a,b⟩:=q;exact⟨d,g',a,h _ _ b⟩
theorem Yv{x}{k k':Bool->Prop}(h:∀b,k b->k' b)(q:oQ g x k):oQ g x k':=by
 obtain⟨b,a,z⟩:=q;exact⟨b,a,h _ z⟩
theorem V6{x y v}{k k':G->Prop}(h:∀g,k g->k' g)(q:Y4 x y v g k):Y4 x y v g k':=by
 obtain⟨b,a,z⟩:=q;exact⟨b,a,h _ z⟩
theorem Zd{f cs x v}{k k':G->Prop}(h:∀g,k g->k' g)(q:uL f cs x v g k):uL f cs x v g k':=by
 obtain⟨b,a,z⟩:=q;exact⟨b,a,h _ z⟩
theorem u1{t x Z}{k k':S->Prop}(h:∀Z,k Z->k' Z)(q:jh t x Z k):jh t x Z k':=by
 cases t with
 |one i=>exact h _ q
 |many is=>obtain⟨l,bT,a,b,c⟩:=q;exact⟨l,bT,a,b,h _ c⟩
theorem Zl{k Z g}{fin ju:S->G->Prop}{turn gK:D->(S->G->Prop)->S->G->Prop}(h:∀Z g,fin Z g->ju Z g)(h2:∀x N Z g,turn x N Z g->gK x N Z g)(q:turns k Z g fin turn):turns k Z g ju gK:=by
 obtain⟨W,w0,q⟩:=q;refine⟨W,w0,λi m Z g w=>?_⟩;rcases q i m Z g w with⟨a,b⟩|⟨x,a,N2,b,c⟩
 ·exact .inl ⟨a,h _ _ b⟩
 ·exact .inr ⟨x,a,N2,b,h2 _ _ _ _ c⟩
theorem ZL{k Z g}{fin ju:List D->G->Prop}{turn gK:D->(Option D->S->G->Prop)->S->G->Prop}(h:∀ys g,fin ys g->ju ys g)(h2:∀x N Z g,turn x N Z g->gK x N Z g)(q:CL k Z g fin turn):CL k Z g ju gK:=by
 obtain⟨W,w0,q⟩:=q;refine⟨W,w0,λi m ys Z g w=>?_⟩;rcases q i m ys Z g w with⟨a,b⟩|⟨x,a,b,c⟩
 ·exact .inl ⟨a,h _ _ b⟩
 ·exact .inr ⟨x,a,b,h2 _ _ _ _ c⟩
theorem ZM{k Z g}{fin ju:List Int->G->Prop}{turn gK:D->(Option Int->S->G->Prop)->S->G->Prop}(h:∀ys g,fin ys g->ju ys g)(h2:∀x N Z g,turn x N Z g->gK x N Z g)(q:CM k Z g fin turn):CM k Z g ju gK:=by
 obtain⟨W,w0,q⟩:=q;refine⟨W,w0,λi m ys Z g w=>?_⟩;rcases q i m ys Z g w with⟨a,b,c⟩|⟨x,a,b,c⟩
 ·exact .inl ⟨a,b,h _ _ c⟩
 ·exact .inr ⟨x,a,b,h2 _ _ _ _ c⟩
theorem F4{t:Bool}{A B A' B':Prop}(h1:A->A')(h2:B->B')(q:if t=true then A else B):if t=true then A' else B':=by
 cases t
 ·exact h2 q
 ·exact h1 q
def f9(P:eB):Prop:=∀f xs g Q Q' E E',(∀d g,Q d g->Q' d g)->(∀x g,E x g->E' x g)->P f xs g Q E->P f xs g Q' E'
mutual
theorem b8{P:eB}(hP:f9 P):∀(e:ME) (Z:S) (g:G) (Q Q':KD) (E E':KX),(∀d g,Q d g->Q' d g)->(∀x g,E x g->E' x g)->aS P e Z g Q E->aS P e Z g Q' E'
 |.var i,Z,g,Q,Q',E,E',h,hx,q=>by
  obtain⟨d,a,b⟩:=q;exact⟨d,a,h _ _ b⟩
 |.lit d,Z,g,Q,Q',E,E',h,hx,q=>by exact h _ _ q
 |.prim p es,Z,g,Q,Q',E,E',h,hx,q=>by
  exact B4 hP es _ _ _ _ _ _ (λxs g1 q=>m8 h q) hx q
 |.dI p o es,Z,g,Q,Q',E,E',h,hx,q=>by
  exact b8 hP o _ _ _ _ _ _ (λx g1 q=>⟨q.1,B4 hP es _ _ _ _ _ _ (λxs g2 q=>m8 h q) hx q.2⟩) hx q
 |.mR es,Z,g,Q,Q',E,E',h,hx,q=>by
  exact B4 hP es _ _ _ _ _ _ (λxs g1 ⟨kvs,a,b,c,d⟩=>⟨kvs,a,b,c,h _ _ d⟩) hx q
 |.chain o1 o2 a b c,Z,g,Q,Q',E,E',h,hx,q=>by
  refine b8 hP a _ _ _ _ _ _ (λx g1 q=>b8 hP b _ _ _ _ _ _ (λy g2 q=>m8 (λz g3 q=>?_) q) hx q) hx q;obtain⟨t,e,q⟩:=q;exact⟨t,e,F4 (λq=>b8 hP c _ _ _ _ _ _ (λw g4 q=>m8 h q) hx q) (h _ _) q⟩
 |.dC a b,Z,g,Q,Q',E,E',h,hx,q=>by
  refine b8 hP a _ _ _ _ _ _ (λx g1 q=>?_) hx q;obtain⟨t,e,q⟩:=q;exact⟨t,e,F4 (λq=>b8 hP b _ _ _ _ _ _ h hx q) (h _ _) q⟩
 |.gX a b,Z,g,Q,Q',E,E',h,hx,q=>by
  refine b8 hP a _ _ _ _ _ _ (λx g1 q=>?_) hx q;obtain⟨t,e,q⟩:=q;exact⟨t,e,F4 (h _ _) (λq=>b8 hP b _ _ _ _ _ _ h hx q) q⟩
 |.cO a,Z,g,Q,Q',E,E',h,hx,q=>by
  refine b8 hP a _ _ _ _ _ _ (λx g1 q=>?_) hx q;obtain⟨t,e,q⟩:=q;exact⟨t,e,h _ _ q⟩
 |.ite c a b,Z,g,Q,Q',E,E',h,hx,q=>by
  exact m4 hP c _ _ _ _ _ _ (λt g1 q=>F4 (λq=>b8 hP a _ _ _ _ _ _ h hx q) (λq=>b8 hP b _ _ _ _ _ _ h hx q) q) hx q
 |.call f es,Z,g,Q,Q',E,E',h,hx,q=>by
  exact B4 hP es _ _ _ _ _ _ (λxs g1 q=>hP _ _ _ _ _ _ _ h hx q) hx q
 |.make c f es,Z,g,Q,Q',E,E',h,hx,q=>by
  exact B4 hP es _ _ _ _ _ _ (λxs g1 q=>hP _ _ _ _ _ _ _ (λd g2 q=>⟨q.1,h _ _ q.2⟩) hx q) hx q
 |.bo m cs o es,Z,g,Q,Q',E,E',h,hx,q=>by
  refine b8 hP o _ _ _ _ _ _ (λx g1 q=>?_) hx q;obtain⟨a,c,fs,f,q1,q2,q3,q4,q⟩:=q;exact⟨a,c,fs,f,q1,q2,q3,q4,B4 hP es _ _ _ _ _ _ (λxs g2 q=>hP _ _ _ _ _ _ _ h hx q) hx q⟩
 |.comp c7 n tg it cond elt,Z,g,Q,Q',E,E',h,hx,q=>by
  exact w5 hP it _ _ _ _ _ _ (λk g1 q=>ZL (λys g q=>h _ _ q) (λ_ _ _ _ q=>q) q) hx q
 |.gp c7 n tg it cond elt,Z,g,Q,Q',E,E',h,hx,q=>by
  exact w5 hP it _ _ _ _ _ _ (λk g1 q=>ZM (λys g q=>h _ _ q) (λ_ _ _ _ q=>q) q) hx q
 |.nil,Z,g,Q,Q',E,E',h,hx,q=>(show False from q).elim
 |.cons _ _,Z,g,Q,Q',E,E',h,hx,q=>(show False from q).elim
 |.eN _,Z,g,Q,Q',E,E',h,hx,q=>(show False from q).elim
 |.fk _,Z,g,Q,Q',E,E',h,hx,q=>(show False from q).elim
 |.ja _ _,Z,g,Q,Q',E,E',h,hx,q=>(show False from q).elim
 |.jQ _,Z,g,Q,Q',E,E',h,hx,q|.mB _,Z,g,Q,Q',E,E',h,hx,q=>(show False from q).elim
 |.dQ _,Z,g,Q,Q',E,E',h,hx,q=>(show False from q).elim
 |.no,Z,g,Q,Q',E,E',h,hx,q=>(show False from q).elim
theorem B4{P:eB}(hP:f9 P):∀(e:ME) (Z:S) (g:G) (Q Q':List D->G->Prop) (E E':KX),(∀d g,Q d g->Q' d g)->(∀x g,E x g->E' x g)->fc P e Z g Q E->fc P e Z g Q' E'
 |.nil,Z,g,Q,Q',E,E',h,hx,q=>by exact h _ _ q
 |.cons a b,Z,g,Q,Q',E,E',h,hx,q=>by
  exact b8 hP a _ _ _ _ _ _ (λx g1 q=>B4 hP b _ _ _ _ _ _ (λxs g2 q=>h _ _ q) hx q) hx q
 |.var _,Z,g,Q,Q',E,E',h,hx,q|.lit _,Z,g,Q,Q',E,E',h,hx,q|.prim _ _,Z,g,Q,Q',E,E',h,hx,q|.dI _ _ _,Z,g,Q,Q',E,E',h,hx,q|.mR _,Z,g,Q,Q',E,E',h,hx,q|.chain _ _ _ _ _,Z,g,Q,Q',E,E',h,hx,q|.dC _ _,Z,g,Q,Q',E,E',h,hx,q|.gX _ _,Z,g,Q,Q',E,E',h,hx,q|.cO _,Z,g,Q,Q',E,E',h,hx,q|.ite _ _ _,Z,g,Q,Q',E,E',h,hx,q|.call _ _,Z,g,Q,Q',E,E',h,hx,q
 |.make _ _ _,Z,g,Q,Q',E,E',h,hx,q|.bo _ _ _ _,Z,g,Q,Q',E,E',h,hx,q|.comp _ _ _ _ _ _,Z,g,Q,Q',E,E',h,hx,q|.gp _ _ _ _ _ _,Z,g,Q,Q',E,E',h,hx,q|.eN _,Z,g,Q,Q',E,E',h,hx,q|.fk _,Z,g,Q,Q',E,E',h,hx,q|.ja _ _,Z,g,Q,Q',E,E',h,hx,q|.jQ _,Z,g,Q,Q',E,E',h,hx,q|.mB _,Z,g,Q,Q',E,E',h,hx,q|.dQ _,Z,g,Q,Q',E,E',h,hx,q|.no,Z,g,Q,Q',E,E',h,hx,q=>(show False from q).elim
theorem m4{P:eB}(hP:f9 P):∀(e:ME) (Z:S) (g:G) (Q Q':Bool->G->Prop) (E E':KX),(∀d g,Q d g->Q' d g)->(∀x g,E x g->E' x g)->dF P e Z g Q E->dF P e Z g Q' E'
 |.dC a b,Z,g,Q,Q',E,E',h,hx,q=>by
  exact m4 hP a _ _ _ _ _ _ (λt g1 q=>F4 (λq=>m4 hP b _ _ _ _ _ _ h hx q) (h _ _) q) hx q
 |.gX a b,Z,g,Q,Q',E,E',h,hx,q=>by
  exact m4 hP a _ _ _ _ _ _ (λt g1 q=>F4 (h _ _) (λq=>m4 hP b _ _ _ _ _ _ h hx q) q) hx q
 |.cO a,Z,g,Q,Q',E,E',h,hx,q=>by exact m4 hP a _ _ _ _ _ _ (λt g1 q=>h _ _ q) hx q
 |.no,Z,g,Q,Q',E,E',h,hx,q=>by exact h _ _ q
 |.dQ e,Z,g,Q,Q',E,E',h,hx,q=>by exact b8 hP e _ _ _ _ _ _ (λx g1 q=>Yv (λb q=>h _ _ q) q) hx q
 |.var _,Z,g,Q,Q',E,E',h,hx,q|.lit _,Z,g,Q,Q',E,E',h,hx,q|.prim _ _,Z,g,Q,Q',E,E',h,hx,q|.dI _ _ _,Z,g,Q,Q',E,E',h,hx,q|.mR _,Z,g,Q,Q',E,E',h,hx,q|.chain _ _ _ _ _,Z,g,Q,Q',E,E',h,hx,q|.ite _ _ _,Z,g,Q,Q',E,E',h,hx,q|.call _ _,Z,g,Q,Q',E,E',h,hx,q|.nil,Z,g,Q,Q',E,E',h,hx,q|.cons _ _,Z,g,Q,Q',E,E',h,hx,q
 |.make _ _ _,Z,g,Q,Q',E,E',h,hx,q|.bo _ _ _ _,Z,g,Q,Q',E,E',h,hx,q|.comp _ _ _ _ _ _,Z,g,Q,Q',E,E',h,hx,q|.gp _ _ _ _ _ _,Z,g,Q,Q',E,E',h,hx,q|.eN _,Z,g,Q,Q',E,E',h,hx,q|.fk _,Z,g,Q,Q',E,E',h,hx,q|.ja _ _,Z,g,Q,Q',E,E',h,hx,q|.jQ _,Z,g,Q,Q',E,E',h,hx,q|.mB _,Z,g,Q,Q',E,E',h,hx,q=>(show False from q).elim
theorem w5{P:eB}(hP:f9 P):∀(e:ME) (Z:S) (g:G) (Q Q':IK->G->Prop) (E E':KX),(∀d g,Q d g->Q' d g)->(∀x g,E x g->E' x g)->gb P e Z g Q E->gb P e Z g Q' E'
 |.eN e,Z,g,Q,Q',E,E',h,hx,q=>by
  exact b8 hP e _ _ _ _ _ _ (λx g1 q=>q.imp (λ⟨l,a,b⟩=>⟨l,a,h _ _ b⟩) λ⟨i,l,a,b,c⟩=>⟨i,l,a,b,h _ _ c⟩) hx q
 |.fk a,Z,g,Q,Q',E,E',h,hx,q=>by
  exact b8 hP a _ _ _ _ _ _ (λx g1 ⟨j,a,b,c,d⟩=>⟨j,a,b,c,h _ _ d⟩) hx q
 |.ja a b,Z,g,Q,Q',E,E',h,hx,q=>by
  exact b8 hP a _ _ _ _ _ _ (λx g1 q=>b8 hP b _ _ _ _ _ _ (λy g2 ⟨i,j,a,b,c,d⟩=>⟨i,j,a,b,c,h _ _ d⟩) hx q) hx q
 |.jQ e,Z,g,Q,Q',E,E',h,hx,q=>by
  exact b8 hP e _ _ _ _ _ _ (λx g1 ⟨i,l,a,b,c⟩=>⟨i,l,a,b,h _ _ c⟩) hx q
 |.mB e,Z,g,Q,Q',E,E',h,hx,q=>by
  exact b8 hP e _ _ _ _ _ _ (λx g1 ⟨i,l,a,b,c⟩=>⟨i,l,a,b,h _ _ c⟩) hx q
 |.var _,Z,g,Q,Q',E,E',h,hx,q|.lit _,Z,g,Q,Q',E,E',h,hx,q|.prim _ _,Z,g,Q,Q',E,E',h,hx,q|.dI _ _ _,Z,g,Q,Q',E,E',h,hx,q|.mR _,Z,g,Q,Q',E,E',h,hx,q|.chain _ _ _ _ _,Z,g,Q,Q',E,E',h,hx,q|.ite _ _ _,Z,g,Q,Q',E,E',h,hx,q|.call _ _,Z,g,Q,Q',E,E',h,hx,q|.nil,Z,g,Q,Q',E,E',h,hx,q|.cons _ _,Z,g,Q,Q',E,E',h,hx,q
 |.dC _ _,Z,g,Q,Q',E,E',h,hx,q|.gX _ _,Z,g,Q,Q',E,E',h,hx,q|.cO _,Z,g,Q,Q',E,E',h,hx,q|.dQ _,Z,g,Q,Q',E,E',h,hx,q|.no,Z,g,Q,Q',E,E',h,hx,q
 |.make _ _ _,Z,g,Q,Q',E,E',h,hx,q|.bo _ _ _ _,Z,g,Q,Q',E,E',h,hx,q|.comp _ _ _ _ _ _,Z,g,Q,Q',E,E',h,hx,q|.gp _ _ _ _ _ _,Z,g,Q,Q',E,E',h,hx,q=>(show False from q).elim
end
structure Ends.le(N N':Ends):Prop where
 nx:∀Z g,N.nx Z g->N'.nx Z g
 rt:∀d g,N.rt d g->N'.rt d g
 bk:∀Z g,N.bk Z g->N'.bk Z g
 ct:∀Z g,N.ct Z g->N'.ct Z g
theorem JW{P:eB}(hP:f9 P){N N':Ends}{E E':KX}(h:N.le N')(hx:∀x g,E x g->E' x g){Z:S}:∀(hs:List (Str×ME)) x g,kA P N Z E hs x g->kA P N' Z E' hs x g
 |[],x,g,q=>hx x g q
 |(y,e)::r,x,g,q=>by
  unfold kA at q ⊢;split
  ·rename_i hh;rw[aN hh] at q;exact b8 hP e _ _ _ _ _ _ h.rt (λ_ _ z=>z) q
  ·rename_i hh;rw[aG hh] at q;exact JW hP h hx r x g q
theorem wpS_mono{P:eB}(hP:f9 P):∀(s:MS) (N N':Ends) (Z:S) (g:G) (E E':KX),N.le N'->(∀x g,E x g->E' x g)->wpS P s N Z g E->wpS P s N' Z g E'
 |.pass,N,N',Z,g,E,E',h,hx,q=>h.nx _ _ q
 |.seq a b,N,N',Z,g,E,E',h,hx,q=>wpS_mono hP a { N with nx:=λhZ g1=>wpS P b N hZ g1 E } { N' with nx:=λhZ g1=>wpS P b N' hZ g1 E' } _ _ _ _ ⟨λhZ g1 q=>wpS_mono hP b _ _ _ _ _ _ h hx q,h.rt,h.bk,h.ct⟩ hx q
 |.expr e,N,N',Z,g,E,E',h,hx,q=>b8 hP e _ _ _ _ _ _ (λx g1 q=>h.nx _ _ q) hx q
 |.set i e,N,N',Z,g,E,E',h,hx,q=>b8 hP e _ _ _ _ _ _ (λx g1 q=>h.nx _ _ q) hx q
 |.mr t e,N,N',Z,g,E,E',h,hx,q=>b8 hP e _ _ _ _ _ _ (λx g1 q=>u1 (λZ q=>h.nx _ _ q) q) hx q
 |.cN o i v,N,N',Z,g,E,E',h,hx,q=>b8 hP v _ _ _ _ _ _ (λx g1 q=>b8 hP o _ _ _ _ _ _ (λy g2 q=>b8 hP i _ _ _ _ _ _ (λz g3 q=>V6 (λg q=>h.nx _ _ q) q) hx q) hx q) hx q
 |.fC f cs o v,N,N',Z,g,E,E',h,hx,q=>b8 hP v _ _ _ _ _ _ (λx g1 q=>b8 hP o _ _ _ _ _ _ (λy g2 q=>Zd (λg q=>h.nx _ _ q) q) hx q) hx q
 | .jx f cs o v,N,N',Z,g,E,E',h,hx,q=>b8 hP o _ _ _ _ _ _ (λy g1 q=>by
   obtain⟨a,c,fs,x,q1,q2,q3,q4,q⟩:=q;exact ⟨a,c,fs,x,q1,q2,q3,q4,b8 hP v _ _ _ _ _ _ (λz g3 q=>m8 (λw g4 q=>by
    obtain⟨iw,k1,k2,k3⟩:=q;exact ⟨iw,k1,k2,h.nx _ _ k3⟩) q) hx q⟩) hx q
 |.vR o1 i1 o2 i2 e,N,N',Z,g,E,E',h,hx,q=>b8 hP e _ _ _ _ _ _ (λx g1 q=>let ⟨u,v,q1,q⟩:=q;⟨u,v,q1,b8 hP o1 _ _ _ _ _ _ (λy g2 q=>b8 hP i1 _ _ _ _ _ _ (λz g3 q=>V6 (λg4 q=>b8 hP o2 _ _ _ _ _ _ (λy g5 q=>b8 hP i2 _ _ _ _ _ _ (λz g6 q=>V6 (λg q=>h.nx _ _ q) q) hx q) hx q) q) hx q) hx q⟩) hx q
 |.jw i p v,N,N',Z,g,E,E',h,hx,q=>let ⟨x,q1,q⟩:=q;⟨x,q1,b8 hP v _ _ _ _ _ _ (λz g1 q=>m8 (λw g2 q=>h.nx _ _ q) q) hx q⟩
 |.ifs c a b,N,N',Z,g,E,E',h,hx,q=>m4 hP c _ _ _ _ _ _ (λt g1 q=>F4 (λq=>wpS_mono hP a _ _ _ _ _ _ h hx q) (λq=>wpS_mono hP b _ _ _ _ _ _ h hx q) q) hx q
 |.eF t it b,N,N',Z,g,E,E',h,hx,q=>w5 hP it _ _ _ _ _ _ (λk g1 q=>Zl h.nx (λx N2 Z g q=>u1 (λcb q=>wpS_mono hP b { N with nx:=N2,ct:=N2,bk:=N.nx } { N' with nx:=N2,ct:=N2,bk:=N'.nx } _ _ _ _ ⟨λ_ _ z=>z,h.rt,h.nx,λ_ _ z=>z⟩ hx q) q) q) hx q
 |.iU c b,N,N',Z,g,E,E',h,hx,q=>by
  obtain⟨W,w0,q⟩:=q;refine⟨W,w0,λm Z g w=>m4 hP c _ _ _ _ _ _ (λt g1 q=>F4 (λq=>?_) (h.nx _ _) q) hx (q m Z g w)⟩;obtain⟨N2,a,q⟩:=q;exact⟨N2,a,wpS_mono hP b { N with nx:=N2,ct:=N2,bk:=N.nx } { N' with nx:=N2,ct:=N2,bk:=N'.nx } _ _ _ _ ⟨λ_ _ z=>z,h.rt,h.nx,λ_ _ z=>z⟩ hx q⟩
 |.ret e,N,N',Z,g,E,E',h,hx,q=>b8 hP e _ _ _ _ _ _ h.rt hx q
 |.pq,N,N',Z,g,E,E',h,hx,q=>h.rt _ _ q
 |.brk,N,N',Z,g,E,E',h,hx,q=>h.bk _ _ q
 |.cont,N,N',Z,g,E,E',h,hx,q=>h.ct _ _ q
 |.raise x es,N,N',Z,g,E,E',h,hx,q=>B4 hP es _ _ _ _ _ _ (λvs g1 q=>⟨q.1,hx _ _ q.2⟩) hx q
 |.nU b hs,N,N',Z,g,E,E',h,hx,q=>wpS_mono hP b _ _ _ _ _ _ h (λx g q=>JW hP h hx hs x g q) q
theorem a5(T:Nat->Option aK):∀k,f9 (b0 T k)
 |0=>λf xs g Q Q' E E' h hx q=>q.elim
 |k+1=>λf xs g Q Q' E E' h hx q=>by
  obtain⟨m,a,b,q⟩:=q;exact⟨m,a,b,wpS_mono (a5 T k) m.body ⟨λ_ g'=>Q .bc g',Q,λ_ _=>False,λ_ _=>False⟩ _ _ _ _ _ ⟨λ_ _ z=>h _ _ z,h,λ_ _ z=>z,λ_ _ z=>z⟩ hx q⟩
def TupAt(K:PySem.W.Frag)(H:Hp)(a:Addr)(vs:List V):Prop :=
 H a=some (.tup vs)\/∃(o:Obj) (aX:Array Value) (n:Nat),K.lookup a=some o/\o.cls=.type "tuple"/\o.dict=none/\o.data=.seq aX n/\aX.size<=sizeLine/\Vals vs aX.toList
theorem TupAt.d(h:TupAt K H a vs):AD K H a vs:=h
theorem TupAt.sq{K:PySem.W.Frag}{H:Hp}{a:Addr}{vs:List V}(h:TupAt K H a vs):gY K H a vs:=h.d.sq
mutual
inductive d0(K:PySem.W.Frag)(ρ:List Addr)(H:Hp):D->V->Prop
 |bc:d0 K ρ H .bc .bc
 |bl (b:Bool):d0 K ρ H (.bl b) (.bl b)
 |int (i:Int):d0 K ρ H (.int i) (.int i)
 |str (x:Str):d0 K ρ H (.str x) (.str x)
 |ty (n:String):d0 K ρ H (.ty n) (.ty n)
 |ref {i:Nat} {a:Addr} (h:ρ[i]?=some a):d0 K ρ H (.ref i) (.ref a)
 |tup {l:List D} {a:Addr} {vs:List V} (h:TupAt K H a vs) (r:b7 K ρ H l vs):d0 K ρ H (.tup l) (.ref a)
inductive b7(K:PySem.W.Frag)(ρ:List Addr)(H:Hp):List D->List V->Prop
 |nil:b7 K ρ H [] []
 |cons {d:D} {v:V} {ds:List D} {vs:List V} (h:d0 K ρ H d v) (r:b7 K ρ H ds vs):b7 K ρ H (d::ds) (v::vs)
end
structure Ext(ρ:List Addr)(H:Hp)(bH:List Addr)(H':Hp):Prop where
 pre:∃more,bH=ρ++more
 tup:∀a xs,H a=some (.tup xs)->H' a=some (.tup xs)
theorem Ext.refl(ρ:List Addr)(H:Hp):Ext ρ H ρ H:=⟨⟨[],by simp⟩,λ_ _ h=>h⟩
theorem Ext.trans{ρ H bN H1 dZ H2}(a:Ext ρ H bN H1)(b:Ext bN H1 dZ H2):Ext ρ H dZ H2:=by
 obtain⟨⟨m,rfl⟩,t⟩:=a;obtain⟨⟨m',rfl⟩,t'⟩:=b;exact⟨⟨m++m',by simp⟩,λx xs h=>t' _ _ (t _ _ h)⟩
theorem Ext.get{ρ H bH H'}(e:Ext ρ H bH H')(h:ρ[i]?=some a):bH[i]?=some a:=by
 obtain⟨⟨m,rfl⟩,_⟩:=e;rw[aI (ao.mp h).1];exact h
theorem TupAt.ext{K ρ H bH H'}(e:Ext ρ H bH H')(h:TupAt K H a vs):TupAt K H' a vs:=h.elim (λz=>.inl (e.tup _ _ z)) .inr
mutual
theorem d0.ext{K ρ H bH H'}(e:Ext ρ H bH H'):∀{d v},d0 K ρ H d v->d0 K bH H' d v
 |_,_,.bc=>.bc
 |_,_,.bl b=>.bl b
 |_,_,.int i=>.int i
 |_,_,.str x=>.str x
 |_,_,.ty n=>.ty n
 |_,_,.ref h=>.ref (e.get h)
 |_,_,.tup h r=>.tup (h.ext e) (b7.ext e r)
theorem b7.ext{K ρ H bH H'}(e:Ext ρ H bH H'):∀{ds vs},b7 K ρ H ds vs->b7 K bH H' ds vs
 |_,_,.nil=>.nil
 |_,_,.cons h r=>.cons (d0.ext e h) (b7.ext e r)
end
theorem b7.length{K ρ H}{ds:List D}{vs:List V}(h:b7 K ρ H ds vs):ds.length=vs.length:=by
 induction ds generalizing vs with
 |nil=>cases h;rfl
 |cons d ds ih =>
  cases h with
  |cons q r=>simp[ih r]
theorem b7.get{K ρ H}:∀{ds vs} {i:Nat} {d:D},b7 K ρ H ds vs->ds[i]?=some d->∃v,vs[i]?=some v/\d0 K ρ H d v
 |_,_,_,_,.nil,h=>by simp at h
 |_,_,0,_,.cons h _,e=>by simp at e;subst e;exact⟨_,rfl,h⟩
 |_,_,i+1,d,.cons _ r,e=>by
  obtain⟨v,h1,h2⟩:=b7.get (i:=i) (d:=d) r (by simpa using e);exact⟨v,by simpa using h1,h2⟩
theorem b7.set{K ρ H}{d:D}{v:V}(h:d0 K ρ H d v):∀{ds vs} (i:Nat),b7 K ρ H ds vs->b7 K ρ H (ds.set i d) (vs.set i v)
 |_,_,_,.nil=>.nil
 |_,_,0,.cons _ r=>.cons h r
 |_,_,i+1,.cons q r=>.cons q (b7.set h i r)
theorem b7.append{K ρ H}{ds es:List D}{ws:List V}(h:b7 K ρ H ds vs)(s:b7 K ρ H es ws):b7 K ρ H (ds++es) (vs++ws):=by
 induction ds generalizing vs with
 |nil=>cases h;exact s
 |cons d ds ih =>
  cases h with
  |cons q r=>exact .cons q (ih r)
theorem b7.erase{K ρ H}:∀{ds:List D} {vs:List V} (i:Nat),b7 K ρ H ds vs->b7 K ρ H (ds.eraseIdx i) (vs.eraseIdx i)
 |_,_,_,.nil=>.nil
 |_,_,0,.cons _ r=>r
 |_,_,i+1,.cons q r=>.cons q (b7.erase i r)
theorem b7.take{K ρ H}:∀{ds:List D} {vs:List V} (n:Nat),b7 K ρ H ds vs->b7 K ρ H (ds.take n) (vs.take n)
 |_,_,0,_=>.nil
 |_,_,_+1,.nil=>.nil
 |_,_,n+1,.cons h r=>.cons h (b7.take n r)
theorem b7.drop{K ρ H}:∀{ds:List D} {vs:List V} (n:Nat),b7 K ρ H ds vs->b7 K ρ H (ds.drop n) (vs.drop n)
 |_,_,0,r=>r
 |_,_,_+1,.nil=>.nil
 |_,_,n+1,.cons _ r=>b7.drop n r
theorem b7.reverse{K ρ H}:∀{ds:List D} {vs:List V},b7 K ρ H ds vs->b7 K ρ H ds.reverse vs.reverse
 |_,_,.nil=>.nil
 |_,_,.cons h r=>by
  rw[fZ,fZ];exact b7.append (b7.reverse r) (.cons h .nil)
theorem b7.cut{K ρ H}{ds:List D}{vs:List V}(r:b7 K ρ H ds vs)(lo hi:Option Int):b7 K ρ H (M.cut ds lo hi) (U9 vs lo hi):=by
 unfold M.cut U9;rw[r.length];exact(r.drop _).take _
theorem b7.ints{K ρ H}:∀{ns:List Int} {vs:List V},b7 K ρ H (ns.map D.int) vs->vs=ns.map V.int
 |[],_,.nil=>rfl
 |_::_,_,.cons h r=>by cases h;rw[b7.ints r];rfl
theorem b7.ofInts{K ρ H}:∀(ns:List Int),b7 K ρ H (ns.map D.int) (ns.map V.int)
 |[]=>.nil
 |n::r=>.cons (.int n) (b7.ofInts r)
def rH(K:PySem.W.Frag)(H:Hp)(a:Addr)(vs:List V):Prop :=
 (∃o,H a=some (.jb o (.lst vs)))\/∃(o:Obj) (aX:Array Value) (n:Nat),K.lookup a=some o/\o.cls=.type "list"/\o.dict=none/\o.data=.seq aX n/\aX.size<=sizeLine/\Vals vs aX.toList
theorem rH.sq(h:rH K H a vs):eQ K H a vs:=h.elim (λ⟨o,z⟩=>.inl (.inr ⟨o,z⟩)) .inr
inductive d5{α:Type}(K:PySem.W.Frag)(ρ:List Addr)(H:Hp):List (α×D)->List (α×V)->Prop
 |nil:d5 K ρ H [] []
 |cons {k:α} {d:D} {v:V} {ds:List (α×D)} {vs:List (α×V)} (h:d0 K ρ H d v) (r:d5 K ρ H ds vs):d5 K ρ H ((k,d)::ds) ((k,v)::vs)
theorem d5.ext{α:Type}{K ρ H bH H'}(e:Ext ρ H bH H'){ds:List (α×D)}{vs:List (α×V)}(h:d5 K ρ H ds vs):d5 K bH H' ds vs:=by
 induction h with
 |nil=>exact .nil
 |cons h r ih=>exact .cons (h.ext e) ih
theorem d5.drop{K ρ H}{ds:List (Key×D)}{vs:List (Key×V)}(k:Key)(h:d5 K ρ H ds vs):d5 K ρ H (delD ds k) (qi vs k):=by
 unfold delD qi
 induction h with
 |nil=>exact .nil
 |cons h r ih =>
  rw[dc,dc];split
  ·exact .cons h ih
  ·exact ih
theorem d5.get{α:Type}{K ρ H}{ds:List (α×D)}{vs:List (α×V)}(h:d5 K ρ H ds vs):∀{i:Nat} {k:α} {d:D},ds[i]?=some (k,d)->∃v,vs[i]?=some (k,v)/\d0 K ρ H d v:=by
 induction h with
 |nil=>intro i k d e;simp at e
 |cons h r ih =>
  intro i k d e;cases i with
  |zero=>simp at e;obtain⟨rfl,rfl⟩:=e;exact⟨_,rfl,h⟩
  |succ i=>simpa using ih (by simpa using e)
theorem d5.length{α:Type}{K ρ H}{ds:List (α×D)}{vs:List (α×V)}(h:d5 K ρ H ds vs):ds.length=vs.length:=by
 induction h with
 |nil=>rfl
 |cons h r ih=>simp[ih]
def qe(K:PySem.W.Frag)(ρ:List Addr)(H:Hp):Option D->Option V->Prop
 |some d,some v=>d0 K ρ H d v
 |none,none=>True
 |_,_=>False
theorem d5.val{K ρ H}:∀{ds vs} (k:Key),d5 K ρ H ds vs->qe K ρ H (m5 ds k) (L5 vs k)
 |_,_,k,.nil=>trivial
 |_,_,k,.cons (k:=k') h r=>by
  unfold m5 L5;rw[cS,cS];by_cases e:k'=k
  ·simp only[e,decide_true];exact h
  ·simp only[e,decide_false];exact d5.val k r
theorem d5.Fo{K ρ H}:∀{ds vs} (k:Key),d5 K ρ H ds vs->(ds.any λkv=>decide (kv.1=k))=(vs.any λkv=>decide (kv.1=k))
 |_,_,k,.nil=>rfl
 |_,_,k,.cons h r=>by simp only[List.any_cons,d5.Fo k r]
theorem d5.snoc{K ρ H}{k:Key}{d:D}{v:V}(h:d0 K ρ H d v){ds vs}(t:d5 K ρ H ds vs):d5 K ρ H (ds++[(k,d)]) (vs++[(k,v)]):=by
 induction ds generalizing vs with
 |nil=>cases t;exact .cons h .nil
 |cons d ds ih =>
  cases t with
  |cons q r=>exact .cons q (ih r)
theorem d5.Cz{K ρ H}{k:Key}{d:D}{v:V}(h:d0 K ρ H d v):∀{ds vs},d5 K ρ H ds vs->d5 K ρ H (ds.map λkv=>if kv.1=k then(kv.1,d) else kv) (vs.map λkv=>if kv.1=k then(kv.1,v) else kv)
 |_,_,.nil=>.nil
 |_,_,.cons (k:=k') q r=>by
  simp only[List.map_cons];by_cases e:k'=k
  ·rw[aN e,aN e];exact .cons h (d5.Cz h r)
  ·rw[aG e,aG e];exact .cons q (d5.Cz h r)
theorem d5.put{K ρ H}{k:Key}{d:D}{v:V}(h:d0 K ρ H d v){ds vs}(r:d5 K ρ H ds vs):d5 K ρ H (putD ds k d) (putK vs k v):=by
 unfold putD putK;rw[r.Fo k];split
 ·exact r.Cz h
 ·exact r.snoc h
noncomputable abbrev l5(K:PySem.W.Frag)(x:Str)(C:Addr):Prop:=PySem.W.nsIn K mainGlobals x=some (some (.ref C))
theorem d5.look{K ρ H}{ds:List (Str×D)}{vs:List (Str×V)}(f:Str)(h:d5 K ρ H ds vs):qe K ρ H (ds.lookup f) (vs.lookup f):=by
 induction h with
 |nil=>trivial
 |cons h r ih =>
  rename_i k d v ds vs;rw[cZ,cZ];cases f==k
  ·exact ih
  ·exact h
theorem d5.p6{K ρ H}{f:Str}{d:D}{v:V}(h:d0 K ρ H d v){ds:List (Str×D)}{vs:List (Str×V)}(r:d5 K ρ H ds vs):d5 K ρ H (i6 f d ds) (L2.p6 f v vs):=by
 induction r with
 |nil=>exact .cons h .nil
 |cons q r ih =>
  unfold i6 L2.p6;split
  ·exact .cons h r
  ·exact .cons q ih
theorem BO{f:Str}{d:D}{p:Str->Prop}(hf:p f):∀{ds:List (Str×D)},(∀x∈ds,p x.1)->∀x∈i6 f d ds,p x.1
 |[],_,x,hx=>by
  have:x=(f,d):=by simpa[i6] using hx
  simp_all
 |(k,e)::r,h,x,hx=>by
  unfold i6 at hx;split at hx
  ·rcases aC.mp hx with z|z
   ·rw[z];exact h (k,e) (by simp)
   ·exact h x (by simp[z])
  ·rcases aC.mp hx with z|z
   ·rw[z];exact h (k,e) (by simp)
   ·exact BO hf (λy hy=>h y (by simp[hy])) x z
def OH(K:PySem.W.Frag)(ρ:List Addr)(H:Hp):O->HO->Prop
 |.lst l,.lst vs=>b7 K ρ H l vs
 |.bC kvs,.dK vs=>d5 K ρ H kvs vs
 |.set S n,.set S' n'=>S=S'/\n=n'
 |.ins c fs,.ins C _ vs=>l5 K c C/\iz K C/\d5 K ρ H fs vs/\∀x∈fs,u6 K C x.1
 |_,_=>False
theorem OH.ext{K ρ H bH H'}(e:Ext ρ H bH H'){o:O}{u:HO}(h:OH K ρ H o u):OH K bH H' o u:=by
 cases o<;>cases u<;>first|exact h.elim|exact b7.ext e h|exact d5.ext e h|exact⟨h.1,h.2.1,h.2.2.1.ext e,h.2.2.2⟩|exact h
theorem OH.rP{K ρ H}{xs:List V}(h:OH K ρ H o (.tup xs)):False:=by cases o<;>exact h
theorem OH.VC{K ρ H}{ob:Obj}(h:OH K ρ H o (.jb ob u)):False:=by cases o<;>exact h
def J6(K:PySem.W.Frag)(ρ:List Addr)(H:Hp)(o:O)(a:Addr):Prop:=match o with
 |.nL l=>∃vs,rH K H a vs/\b7 K ρ H l vs
 |o=>∃u,H a=some u/\OH K ρ H o u
theorem J6.of{K ρ H}(hu:H a=some u)(h:OH K ρ H o u):J6 K ρ H o a:=by
 cases o<;>first|exact⟨u,hu,h⟩|(cases u<;>exact h.elim)
theorem J6.inv{K ρ H}(m:o.mut=true)(h:J6 K ρ H o a):∃u,H a=some u/\OH K ρ H o u:=by
 cases o<;>first|exact h|cases m
theorem J6.lst{K ρ H}{l:List D}{a:Addr}(h:J6 K ρ H (.lst l) a):∃vs,H a=some (.lst vs)/\b7 K ρ H l vs:=by
 obtain⟨u,h1,h2⟩:=h;cases u<;>first|exact⟨_,h1,h2⟩|exact h2.elim
theorem J6.bC{K ρ H}{l:List (Key×D)}{a:Addr}(h:J6 K ρ H (.bC l) a):∃vs,H a=some (.dK vs)/\d5 K ρ H l vs:=by
 obtain⟨u,h1,h2⟩:=h;cases u<;>first|exact⟨_,h1,h2⟩|exact h2.elim
theorem J6.set{K ρ H}{S:Int->Bool}{n:Nat}{a:Addr}(h:J6 K ρ H (.set S n) a):H a=some (.set S n):=by
 obtain⟨u,h1,h2⟩:=h;cases u<;>first|(obtain⟨rfl,rfl⟩:=(show _/\_ from h2);exact h1)|exact h2.elim
theorem J6.ins{K ρ H}{c:Str}{fs:List (Str×D)}{a:Addr}(h:J6 K ρ H (.ins c fs) a):∃C dx vs,H a=some (.ins C dx vs)/\l5 K c C/\iz K C/\d5 K ρ H fs vs/\∀x∈fs,u6 K C x.1:=by
 obtain⟨u,h1,h2⟩:=h;cases u<;>first|exact⟨_,_,_,h1,h2⟩|exact h2.elim
structure Rl(K:PySem.W.Frag)(ρ:List Addr)(g:G)(H:Hp):Prop where
 len:ρ.length=g.length
 obj:∀(i:Nat) o a,g[i]?=some o->ρ[i]?=some a->J6 K ρ H o a
 nd:∀(i j:Nat) o o' a,g[i]?=some o->g[j]?=some o'->o.mut=true->o'.mut=true->ρ[i]?=some a->ρ[j]?=some a->i=j
section
variable{ρ:List Addr}
theorem Rl.lst(R:Rl K ρ g H){i:Nat}{l:List D}{a:Addr}(h:g[i]?=some (.lst l))(ha:ρ[i]?=some a):∃vs,H a=some (.lst vs)/\b7 K ρ H l vs:=(R.obj _ _ _ h ha).lst
theorem Rl.bC(R:Rl K ρ g H){i:Nat}{l:List (Key×D)}{a:Addr}(h:g[i]?=some (.bC l))(ha:ρ[i]?=some a):∃vs,H a=some (.dK vs)/\d5 K ρ H l vs:=(R.obj _ _ _ h ha).bC
theorem Rl.set(R:Rl K ρ g H){i:Nat}{S:Int->Bool}{n:Nat}{a:Addr}(h:g[i]?=some (.set S n))(ha:ρ[i]?=some a):H a=some (.set S n):=(R.obj _ _ _ h ha).set
theorem Rl.ins(R:Rl K ρ g H){i:Nat}{c:Str}{fs:List (Str×D)}{a:Addr}(h:g[i]?=some (.ins c fs))(ha:ρ[i]?=some a):∃C dx vs,H a=some (.ins C dx vs)/\l5 K c C/\iz K C/\d5 K ρ H fs vs/\∀x∈fs,u6 K C x.1:=(R.obj _ _ _ h ha).ins
theorem Rl.items(R:Rl K ρ g H)(h:c9 g i=some l)(ha:ρ[i]?=some a):∃vs,eQ K H a vs/\b7 K ρ H l vs:=by
 cases e:g[i]? with
 |none=>rw[c9,e] at h;cases h
 |some o =>
  rw[c9,e] at h;have q:=R.obj _ _ _ e ha;cases o with
  |lst m=>cases h;obtain⟨vs,z,r⟩:=q.lst;exact⟨vs,eQ.of z,r⟩
  |nL m=>cases h;obtain⟨vs,z,r⟩:=q;exact⟨vs,z.sq,r⟩
  |_=>cases h
theorem q9{o:HO}(hp:H p=none):Ext ρ H ρ (upd H p o):=⟨⟨[],by simp⟩,λa xs h=>by rw[b9 (d4 h hp)];exact h⟩
theorem rH.upd{p a:Addr}{o:HO}{vs:List V}(h:rH K H a vs)(hp:∀ob u,H p≠some (.jb ob u)):rH K (upd H p o) a vs:=by
 rcases h with⟨ob,z⟩|z
 ·refine .inl ⟨ob,?_⟩;rw[b9 ?_]
  ·exact z
  ·intro e;subst e;exact hp _ _ z
 ·exact .inr z
theorem J6.upd{p a:Addr}{o:O}{u:HO}{bH:List Addr}(h:J6 K ρ H o a)(fK:o.mut=true->a≠p)(hp:∀ob u,H p≠some (.jb ob u))(e:Ext ρ H bH (L2.upd H p u)):J6 K bH (L2.upd H p u) o a:=by
 cases hm:o.mut with
 |true =>
  obtain⟨u',h1,h2⟩:=h.inv hm;exact .of (by rw[b9 (fK hm)];exact h1) (h2.ext e)
 |false =>
  cases o<;>first|cases hm|skip
  obtain⟨vs,z,r⟩:=h;exact⟨vs,z.upd hp,r.ext e⟩
theorem Rl.grow{o:HO}(R:Rl K ρ g H)(hp:H p=none):Rl K ρ g (upd H p o):=by
 have e:Ext ρ H ρ (upd H p o):=q9 hp;refine⟨R.len,λi ob a h1 h2=>?_,R.nd⟩;have q:=R.obj _ _ _ h1 h2;refine q.upd (λhm=>?_) (λob u z=>by simp_all) e;obtain⟨u,h1,_⟩:=q.inv hm;exact d4 h1 hp
theorem Rl.m7(R:Rl K ρ g H)(p:Addr):(ρ++[p])[g.length]?=some p:=by rw[<- R.len];simp
theorem u2{o:HO}(hp:H p=none):Ext ρ H (ρ++[p]) (upd H p o):=⟨⟨[p],rfl⟩,(q9 (ρ:=ρ) hp).tup⟩
theorem Rl.new(R:Rl K ρ g H)(hp:H p=none)(r:OH K ρ H o u):Rl K (ρ++[p]) (g++[o]) (upd H p u):=by
 have e:Ext ρ H (ρ++[p]) (upd H p u):=u2 hp;have old:∀{i:Nat} {ob:O} {a:Addr},g[i]?=some ob->(ρ++[p])[i]?=some a->ρ[i]?=some a:=λ{i ob a} h1 h2=>by
  rw[aI (by rw[R.len];exact(ao.mp h1).1)] at h2;exact h2
 have split:∀{i:Nat} {ob:O},(g++[o])[i]?=some ob->g[i]?=some ob\/(i=g.length/\ob=o):=λ{i ob} h=>by
  rcases eI i g.length with q|q|q
  ·rw[aI q] at h;exact .inl h
  ·subst q;simp at h;exact .inr ⟨rfl,h.symm⟩
  ·rw[ba (by simp;omega)] at h;cases h
 refine⟨by simp[R.len],λi ob a h1 h2=>?_,λi j o1 o2 a h1 h2 m1 m2 h3 h4=>?_⟩
 ·rcases split h1 with q|⟨rfl,rfl⟩
  ·have z:=R.obj _ _ _ q (old q h2);refine z.upd (λhm=>?_) (λob u z=>by simp_all) e;obtain⟨u,h1,_⟩:=z.inv hm;exact d4 h1 hp
  ·rw[R.m7] at h2;cases h2;exact .of d8 (r.ext e)
 ·have nq:∀{i:Nat} {o:O} {a:Addr},g[i]?=some o->o.mut=true->ρ[i]?=some a->a≠p:=λ{i o a} h1 hm h2=>by
   obtain⟨u,z,_⟩:=(R.obj _ _ _ h1 h2).inv hm;exact d4 z hp
  rcases split h1 with q|⟨rfl,_⟩
  ·rcases split h2 with q'|⟨rfl,_⟩
   ·exact R.nd _ _ _ _ _ q q' m1 m2 (old q h3) (old q' h4)
   ·rw[R.m7] at h4;cases h4;exact absurd rfl (nq q m1 (old q h3))
  ·rcases split h2 with q'|⟨rfl,_⟩
   ·rw[R.m7] at h3;cases h3;exact absurd rfl (nq q' m2 (old q' h4))
   ·rfl
theorem Rl.sup{H':Hp}(R:Rl K ρ g H)(e:∀b u,H b=some u->H' b=some u):Rl K ρ g H':=by
 have x:Ext ρ H ρ H':=⟨⟨[],by simp⟩,λb xs h=>e _ _ h⟩
 refine⟨R.len,λi o a h1 h2=>?_,R.nd⟩;have q:=R.obj _ _ _ h1 h2;cases hm:o.mut with
 |true =>
  obtain⟨u,z1,z2⟩:=q.inv hm;exact .of (e _ _ z1) (z2.ext x)
 |false =>
  cases o<;>first|cases hm|skip
  obtain⟨vs,z,r⟩:=q;exact⟨vs,z.imp (λ⟨o,z⟩=>⟨o,e _ _ z⟩) id,r.ext x⟩
theorem Rl.alloc(R:Rl K ρ g H)(hp:H p=none)(r:b7 K ρ H l vs):Rl K (ρ++[p]) (g++[.lst l]) (upd H p (.lst vs)):=R.new hp r
theorem Rl.put{o':O}(R:Rl K ρ g H)(h:g[i]?=some o)(hm:o.mut=true)(ha:ρ[i]?=some a)(r:OH K ρ H o' u) :
  Rl K ρ (g.set i o') (upd H a u)/\Ext ρ H ρ (upd H a u):=by
 obtain⟨u0,z0,DH⟩:=(R.obj _ _ _ h ha).inv hm;have e:Ext ρ H ρ (upd H a u):=⟨⟨[],by simp⟩,λb xs q=>by rw[b9];exact q;intro z;subst z;rw[z0] at q;cases q;exact DH.rP⟩
 refine⟨⟨by simp[R.len],λj ob b h1 h2=>?_,λj k o1 o2 b h1 h2 m1 m2 h3 h4=>?_⟩,e⟩
 ·by_cases kf:i=j
  ·subst kf;rw[ha] at h2;cases h2;have hi:i<g.length:=(ao.mp h).1;rw[aY hi] at h1;cases h1;exact .of d8 (r.ext e)
  ·rw[aB kf] at h1;refine(R.obj _ _ _ h1 h2).upd (λtJ ez=>?_) (λob u z=>by rw[z0] at z;cases z;exact DH.VC) e;subst ez;exact kf (R.nd _ _ _ _ _ h h1 hm tJ ha h2)
 ·have back:∀{j:Nat} {m:O},(g.set i o')[j]?=some m->m.mut=true->∃m',g[j]?=some m'/\m'.mut=true:=λ{j m} q tJ=>by
   by_cases kf:i=j
   ·subst kf;exact⟨o,h,hm⟩
   ·rw[aB kf] at q;exact⟨m,q,tJ⟩
  obtain⟨_,q1,n1⟩:=back h1 m1;obtain⟨_,q2,n2⟩:=back h2 m2;exact R.nd _ _ _ _ _ q1 q2 n1 n2 h3 h4
theorem Rl.write{l':List D}(R:Rl K ρ g H)(h:g[i]?=some (.lst l))(ha:ρ[i]?=some a)(r:b7 K ρ H l' vs) :
  Rl K ρ (g.set i (.lst l')) (upd H a (.lst vs))/\Ext ρ H ρ (upd H a (.lst vs)):=R.put h rfl ha r
end
structure k6(K:PySem.W.Frag)(ρ:List Addr)(H:Hp)(Z:S)(bQ:St):Prop where
 len:Z.length=bQ.length
 val:∀(i:Nat) d,Z[i]?=some (some d)->∃v,bQ[i]?=some (some v)/\d0 K ρ H d v
section
variable{ρ bH:List Addr}{H':Hp}
theorem k6.ext{Z bQ}(e:Ext ρ H bH H')(r:k6 K ρ H Z bQ):k6 K bH H' Z bQ:=⟨r.len,λi d h=>let ⟨v,a,b⟩:=r.val i d h;⟨v,a,b.ext e⟩⟩
theorem k6.set{Z bQ d v}(r:k6 K ρ H Z bQ)(i:Nat)(h:d0 K ρ H d v):k6 K ρ H (Z.set i (some d)) (bQ.set i (some v)):=by
 refine⟨by simp[r.len],λj e q=>?_⟩;by_cases kf:i=j
 ·subst kf;have hi:i<Z.length:=by
   have:=(ao.mp q).1
   simp_all
  rw[aY hi] at q;cases q;exact⟨v,by rw[aY (by rw[<- r.len];exact hi)],h⟩
 ·rw[aB kf] at q ⊢;exact r.val j e q
theorem k6.start{ds vs}{n:Nat}(r:b7 K ρ H ds vs):k6 K ρ H (ds.map some++List.replicate (n-ds.length) none) (vs.map some++List.replicate (n-vs.length) none):=by
 refine⟨by simp[r.length],λi d h=>?_⟩;by_cases hi:i<ds.length
 ·rw[aI (by simpa using hi),ah] at h;cases e:ds[i]? with
  |none=>rw[e] at h;cases h
  |some x =>
   rw[e] at h;cases h;obtain⟨v,h1,h2⟩:=r.get e;refine⟨v,?_,h2⟩;rw[aI (by rw[av,<- r.length];exact hi),ah,h1]
   rfl
 ·rw[cL (by simpa using hi),da] at h;split at h<;>cases h
theorem k6.c7{Z bQ}(r:k6 K ρ H Z bQ)(c7:List Nat)(n:Nat):k6 K ρ H (K5 Z c7 n) (u5 bQ c7 n):=by
 refine⟨by simp[K5,u5],λi d h=>?_⟩;unfold K5 at h;unfold u5;by_cases hi:i<c7.length
 ·rw[aI (by simpa using hi),ah,ak hi] at h;rw[aI (by simpa using hi),ah,ak hi];simp only[Option.map_some] at h ⊢;cases e:Z[c7[i]]? with
  |none=>simp_all
  |some x =>
   rw[e] at h;have hx:x=some d:=aD h;subst hx;obtain⟨v,h1,h2⟩:=r.val _ _ e;exact⟨v,by rw[h1];rfl,h2⟩
 ·rw[cL (by simpa using hi),da] at h;split at h<;>cases h
end
end M
namespace M
open PySem L2 PySem.Spec PyProof.Rows
variable{g:G}{l:List D}{vs:List V}{b:Bool}{d:D}{X:Cx}{ρ:List Addr}{H:Hp}{Z:L2.St}{s:Shared}{v x:V}
def LQ(K:PySem.W.Frag)(ρ:List Addr)(H:Hp)(Q:VK):KD:=λd g'=>∀bH H' v,Ext ρ H bH H'->Rl K bH g' H'->d0 K bH H' d v->Q v H'
theorem LQ.ext{K ρ H bN H1 Q d g}(e:Ext ρ H bN H1)(h:LQ K ρ H Q d g):LQ K bN H1 Q d g:=λbH H' v e' R r=>h bH H' v (e.trans e') R r
theorem LQ.now{K ρ H Q d g v}(h:LQ K ρ H Q d g)(R:Rl K ρ g H)(r:d0 K ρ H d v):Q v H:=h ρ H v (.refl _ _) R r
theorem LQ.new{K ρ H Q}{p:Addr}(h:LQ K ρ H Q (.ref g.length) (g++[.lst l]))(R:Rl K ρ g H)(hp:H p=none)(r:b7 K ρ H l vs):Q (.ref p) (upd H p (.lst vs)) :=
 h (ρ++[p]) _ _ (u2 hp) (R.alloc hp r) (.ref (R.m7 p))
theorem LQ.tup{K ρ H Q}{g:G}{l:List D}{vs:List V}{p:Addr}(h:LQ K ρ H Q (.tup l) g)(R:Rl K ρ g H)(hp:H p=none)(r:b7 K ρ H l vs):Q (.ref p) (upd H p (.tup vs)) :=
 h ρ _ _ (q9 hp) (R.grow hp) (.tup (.inl d8) (r.ext (q9 hp)))
def r2(K:PySem.W.Frag)(p:Pr):R2:=λx y H Q=>∃d e g ρ,Rl K ρ g H/\d0 K ρ H d x/\d0 K ρ H e y/\cF p [d,e] g (LQ K ρ H Q)
def r1(K:PySem.W.Frag)(p:Pr):V->Hp->VK->Prop:=λx H Q=>∃d g ρ,Rl K ρ g H/\d0 K ρ H d x/\cF p [d] g (LQ K ρ H Q)
def rN(K:PySem.W.Frag)(p:Pr):List V->Hp->VK->Prop:=λxs H Q=>∃ds g ρ,Rl K ρ g H/\b7 K ρ H ds xs/\cF p ds g (LQ K ρ H Q)
theorem B5{n:Nat}(h:n<=100000):n<=sizeLine:=aA h ∅
theorem AX{n:Nat}(h:n<100000):n<sizeLine:=ay h ∅
theorem d0.i8{K ρ H i v}(h:d0 K ρ H (.int i) v):v=.int i:=by cases h;rfl
theorem d0.CJ{K ρ H i v}(h:d0 K ρ H (.str i) v):v=.str i:=by cases h;rfl
theorem d0.M5{K ρ H i v}(h:d0 K ρ H (.bl i) v):v=.bl i:=by cases h;rfl
theorem d0.CC{K ρ H v}(h:d0 K ρ H .bc v):v=.bc:=by cases h;rfl
theorem d0.Wt{K ρ H n v}(h:d0 K ρ H (.ty n) v):v=.ty n:=by cases h;rfl
theorem d0.f6{K ρ H i v}(h:d0 K ρ H (.ref i) v):∃a,v=.ref a/\ρ[i]?=some a:=by cases h;exact⟨_,rfl,by assumption⟩
theorem d0.J7{K ρ H l v}(h:d0 K ρ H (.tup l) v):∃a vs,v=.ref a/\TupAt K H a vs/\b7 K ρ H l vs:=by cases h;exact⟨_,_,rfl,by assumption,by assumption⟩
theorem b7.one{K ρ H d vs}(h:b7 K ρ H [d] vs):∃v,vs=[v]/\d0 K ρ H d v:=by
 cases h with
 |cons r rr=>cases rr;exact⟨_,rfl,r⟩
theorem b7.two{K ρ H d e vs}(h:b7 K ρ H [d,e] vs):∃v w,vs=[v,w]/\d0 K ρ H d v/\d0 K ρ H e w:=by
 cases h with
 |cons r rr=>obtain⟨w,rfl,q⟩:=rr.one;exact⟨_,_,rfl,r,q⟩
theorem x8{a b c:D}(h:[a,b]=[c,d]):a=c/\b=d:=by cases h;exact⟨rfl,rfl⟩
section
theorem Xm(op:Operator):fo X (binaryOp op) (r2 X.K (.bin op)):=by
 intro pins s Z H x y v u Q I rx ry h;obtain⟨d,e,g,ρ,R,rd,re,d',g',h,q⟩:=h;rcases h with⟨i,j,r,ex,ha,rfl,rfl⟩|⟨rfl,h⟩
 ·obtain⟨rfl,rfl⟩:=x8 ex;obtain rfl:=rd.i8;obtain rfl:=re.i8;have fin:=q.now R (.int r);cases op<;>first|exact(show False from ha).elim|skip
  ·cases ha;exact Xk pins s Z H _ _ v u Q I rx ry ⟨i,j,rfl,rfl,fin⟩
  ·cases ha;exact Xu pins s Z H _ _ v u Q I rx ry ⟨i,j,rfl,rfl,fin⟩
  ·obtain⟨hc,rfl⟩:=ha;exact Xr pins s Z H _ _ v u Q I rx ry ⟨i,j,rfl,rfl,hc,fin⟩
  ·obtain⟨hc,rfl⟩:=ha;exact Xq pins s Z H _ _ v u Q I rx ry ⟨i,j,rfl,rfl,hc,fin⟩
  ·obtain⟨hc,rfl⟩:=ha;exact Xs pins s Z H _ _ v u Q I rx ry ⟨i,j,rfl,rfl,hc,fin⟩
  ·obtain⟨hc,rfl⟩:=ha;exact Xt pins s Z H _ _ v u Q I rx ry ⟨i,j,rfl,rfl,hc,fin⟩
  ·cases ha;exact VH pins s Z H _ _ v u Q I rx ry ⟨i,j,rfl,rfl,fin⟩
  ·cases ha;exact Xl pins s Z H _ _ v u Q I rx ry ⟨i,j,rfl,rfl,fin⟩
  ·obtain⟨hc,rfl⟩:=ha;exact Qa pins s Z H _ _ v u Q I rx ry ⟨i,j,rfl,rfl,hc,fin⟩
 ·rcases h with⟨l,m,ex,hz,rfl,rfl⟩|⟨a,b,l,m,ex,ha,hb,hz,rfl,rfl⟩|z
  ·obtain⟨rfl,rfl⟩:=x8 ex;obtain⟨a,vs,rfl,ta,rs⟩:=rd.J7;obtain⟨b,ws,rfl,tb,rt⟩:=re.J7;refine Sg pins s Z H _ _ v u Q I rx ry ⟨a,b,vs,ws,rfl,rfl,ta.sq,tb.sq,?_,λz=>?_,λz=>?_,λp hp=>q.tup R hp (rs.append rt)⟩
   ·rw[<- rs.length,<- rt.length];exact B5 hz
   ·subst z;cases rs;exact q.now R (.tup tb rt)
   ·subst z;cases rt;rw[fj] at q;exact q.now R (.tup ta rs)
  ·obtain⟨rfl,rfl⟩:=x8 ex;obtain⟨a',rfl,ra⟩:=rd.f6;obtain⟨b',rfl,rb⟩:=re.f6;obtain⟨vs,z1,rs⟩:=R.lst ha ra;obtain⟨ws,z2,rt⟩:=R.lst hb rb;exact Xo pins s Z H _ _ v u Q I rx ry ⟨_,_,vs,ws,rfl,rfl,z1,z2,by rw[<- rs.length,<- rt.length];exact B5 hz,λp hp=>q.new R hp (rs.append rt)⟩
  ·exact z.elim
theorem VI(op:UnaryOp):xQ X (unaryOp op) (r1 X.K (.un op)):=by
 intro pins s Z H x v Q I rx h;obtain⟨d,g,ρ,R,rd,d',g',⟨rfl,i,ex,rfl,rfl⟩,q⟩:=h;cases ex;obtain rfl:=rd.i8;exact OQ pins s Z H _ v Q I rx ⟨_,rfl,q.now R (.int _)⟩
section
variable{pins:List (Addr×Obj)}
theorem HQ(I:Inv X pins Z H s)(R:Rl X.K ρ g H)(n:Nat)(ih:∀{d:D} {v:V} {u:Value} {p:PyData},rd g n d=some p->d0 X.K ρ H d v->RelV v u->∃as,Reads s.heap u p as/\p.depth<=n):∀{vs:List V} {us:List Value} {ps:List PyData},l.mapM (rd g n)=some ps->b7 X.K ρ H l vs->Vals vs us->∃as,ReadsAll s.heap us ps as/\PyData.depthAll ps<=n:=by
 induction l with
 |nil =>
  intro vs us ps h rs rv;cases rs;cases rv;simp at h;subst h;exact⟨_,.nil,cc _⟩
 |cons d l il =>
  intro vs us ps h rs rv;cases rs with
  |cons gW rs =>
   cases rv with
   |cons ru rv =>
    rw[List.mapM_cons] at h;cases e:rd g n d with
    |none=>simp_all
    |some p =>
     rw[e] at h;cases e2:l.mapM (rd g n) with
     |none=>rw[e2] at h;cases h
     |some qs =>
      rw[e2] at h;cases h;obtain⟨as,q1,d1⟩:=ih e gW ru;obtain⟨bs,q2,d2⟩:=il e2 rs rv;refine⟨_,.cons q1 q2,?_⟩;simp only[PyData.depthAll];omega
theorem T8(I:Inv X pins Z H s)(R:Rl X.K ρ g H)(n:Nat):∀{d:D} {v:V} {u:Value} {p:PyData},rd g n d=some p->d0 X.K ρ H d v->RelV v u->∃as,Reads s.heap u p as/\p.depth<=n:=by
 induction n with
 |zero =>
  intro d v u p h r ru;cases r with
  |bc=>simp only[rd] at h;cases h;cases ru;exact⟨_,.none,Nat.zero_le _⟩
  |bl b=>simp only[rd] at h;cases h;cases ru;exact⟨_,.bool b,Nat.zero_le _⟩
  |int i=>simp only[rd] at h;cases h;obtain⟨t,rfl⟩:=ru;exact⟨_,.int i t,Nat.zero_le _⟩
  |str x=>simp only[rd] at h;cases h;obtain⟨t,rfl⟩:=ru;exact⟨_,.str x t,Nat.zero_le _⟩
  |_=>simp only[rd] at h;cases h
 |succ n ih =>
  intro d v u p h r ru;cases r with
  |bc=>simp only[rd] at h;cases h;cases ru;exact⟨_,.none,Nat.zero_le _⟩
  |bl b=>simp only[rd] at h;cases h;cases ru;exact⟨_,.bool b,Nat.zero_le _⟩
  |int i=>simp only[rd] at h;cases h;obtain⟨t,rfl⟩:=ru;exact⟨_,.int i t,Nat.zero_le _⟩
  |str x=>simp only[rd] at h;cases h;obtain⟨t,rfl⟩:=ru;exact⟨_,.str x t,Nat.zero_le _⟩
  |ty x=>simp only[rd] at h;cases h
  |ref ha =>
   rename_i i a;simp only[rd] at h;cases e:c9 g i with
   |none=>simp_all
   |some l =>
    rw[e] at h;dsimp only at h;cases e2:l.mapM (rd g n) with
    |none=>simp_all
    |some ps =>
     rw[e2] at h;cases h;cases ru;obtain⟨vs,hq,rs⟩:=R.items e ha;obtain⟨aX,rv,p,hz⟩:=I.list hq;obtain⟨as,q,hd⟩:=HQ I R n ih e2 rs rv;obtain⟨o,ho,hc,k,pK⟩:=p.isList;refine⟨_,.list ho hc pK (by simpa using q),?_⟩;simp only[PyData.depth];omega
  |tup ht rs =>
   rename_i l a vs;simp only[rd] at h;cases e2:l.mapM (rd g n) with
   |none=>simp_all
   |some ps =>
    rw[e2] at h;cases h;cases ru;obtain⟨aX,rv,pt,hz⟩:=I.tuple ht.sq;obtain⟨as,q,hd⟩:=HQ I R n ih e2 rs rv;obtain⟨o,ho,hc,k,pK⟩:=id pt;refine⟨_,.tuple ho hc pK (by simpa using q),?_⟩;simp only[PyData.depth];omega
end
end
theorem O0{K ρ H}{c:Key}(h:U6 d=some c)(r:d0 K ρ H d v):v=kV c:=by
 cases r<;>first|(cases h;rfl)|cases h
theorem qe.some{K ρ H}{o:Option V}{d:D}(h:qe K ρ H (some d) o):∃v,o=some v/\d0 K ρ H d v:=by
 cases o with
 |none=>exact h.elim
 |some v=>exact⟨v,rfl,h⟩
theorem qe.isSome{K ρ H}{o:Option V}{d:Option D}(h:qe K ρ H d o):d.isSome=o.isSome:=by
 cases o<;>cases d<;>first|rfl|exact h.elim
theorem Fx{pins:List (Addr×Obj)}{e:D}{y:V}{v u:Value}{Q:VK}(hu:X.A.units+100<cLine)(I:Inv X pins Z H s)(rx:RelV x v)(ry:RelV y u)(R:Rl X.K ρ g H)(gW:d0 X.K ρ H d x)(re:d0 X.K ρ H e y)(h:uk g d e b)(neg:Bool)(q:Q (.bl (xor neg b)) H):wpAny (model X.prog X.w) X.A (compareOp (if neg then .NotEq else .Eq) v u) (EP X pins Z Q) X.xe s:=by
 rcases h with⟨i,j,rfl,rfl,rfl⟩|⟨i,j,rfl,rfl,rfl⟩|⟨i,j,rfl,rfl,rfl⟩|⟨p,p',h1,h2,c1,c2,rfl⟩
 ·obtain rfl:=gW.i8;obtain rfl:=re.i8;cases neg
  ·exact Ci pins s Z H _ _ v u Q I rx ry ⟨rfl,by simp_all⟩
  ·exact Cj pins s Z H _ _ v u Q I rx ry ⟨rfl,by simp_all⟩
 ·obtain rfl:=gW.M5;obtain rfl:=re.M5;cases neg
  ·exact Ci pins s Z H _ _ v u Q I rx ry ⟨rfl,by rw[wJ];simpa using q⟩
  ·exact Cj pins s Z H _ _ v u Q I rx ry ⟨rfl,by rw[wJ];simpa using q⟩
 ·obtain rfl:=gW.CJ;obtain rfl:=re.CJ;cases neg
  ·exact Ci pins s Z H _ _ v u Q I rx ry ⟨rfl,by simp_all⟩
  ·exact Cj pins s Z H _ _ v u Q I rx ry ⟨rfl,by simp_all⟩
 ·obtain⟨as,q1,d1⟩:=T8 I R 6 h1 gW rx;obtain⟨bs,q2,d2⟩:=T8 I R 6 h2 re ry;have hr:X.A.units+min p.depth p'.depth<cLine:=by omega
  cases neg
  ·exact SeqAt.compareEq_reads q1 q2 c1 c2 hr ⟨.bl _,H,I,rfl,by simpa using q⟩
  ·exact SeqAt.compareNe_reads q1 q2 c1 c2 hr ⟨.bl _,H,I,rfl,by simpa using q⟩
theorem in_of{pins:List (Addr×Obj)}{e:D}{y:V}{v u:Value}{Q:VK}(hu:X.A.units+100<cLine)(I:Inv X pins Z H s)(rx:RelV x v)(ry:RelV y u)(R:Rl X.K ρ g H)(gW:d0 X.K ρ H d x)(re:d0 X.K ρ H e y)(h:inR g d e b)(neg:Bool)(q:Q (.bl (xor neg b)) H):wpAny (model X.prog X.w) X.A (compareOp (if neg then .NotIn else .In) v u) (EP X pins Z Q) X.xe s:=by
 rcases h with⟨a,kvs,c,rfl,ha,hc,rfl⟩|⟨l,ps,p,h0,h1,h2,c1,c2,rfl⟩
 ·obtain⟨a',rfl,ra⟩:=re.f6;obtain⟨vs,z,rs⟩:=R.bC ha ra;have:=O0 hc gW;subst this;cases ry;rw[(rs.val c).isSome] at q;cases neg
  ·exact Ta () I (Z6.k z) rx λs' I'=>⟨.bl _,H,I',rfl,by simpa using q⟩
  ·exact Ph () I (Z6.k z) rx λs' I'=>⟨.bl _,H,I',rfl,by simpa using q⟩
 ·obtain⟨as,q1,d1⟩:=T8 I R 6 h2 gW rx;cases e with
  |tup m =>
   cases h0;have h3:rd g 7 (.tup l)=some (.tuple ps):=by simp only[rd];rw[show l.mapM (rd g 6)=some ps from h1];rfl
   obtain⟨bs,q2,d2⟩:=T8 I R 7 h3 re ry;have hr:X.A.units+1+min (PyData.depthAll ps) p.depth<cLine:=by omega
   cases neg
   ·exact SeqAt.in_tuple_reads q2 q1 c1 c2 hr ⟨.bl _,H,I,rfl,by simpa using q⟩
   ·exact SeqAt.notIn_tuple_reads q2 q1 c1 c2 hr ⟨.bl _,H,I,rfl,by simpa using q⟩
  |ref a =>
   have h3:rd g 7 (.ref a)=some (.list ps):=by
    simp only[rd];rw[show c9 g a=some l from h0];dsimp only;rw[show l.mapM (rd g 6)=some ps from h1]
    rfl
   obtain⟨bs,q2,d2⟩:=T8 I R 7 h3 re ry;have hr:X.A.units+1+min (PyData.depthAll ps) p.depth<cLine:=by omega
   cases neg
   ·exact SeqAt.in_list_reads q2 q1 c1 c2 hr ⟨.bl _,H,I,rfl,by simpa using q⟩
   ·exact SeqAt.notIn_list_reads q2 q1 c1 c2 hr ⟨.bl _,H,I,rfl,by simpa using q⟩
  |_=>cases h0
theorem rZ(hu:X.A.units+100<cLine)(op:CmpOp):fo X (compareOp op) (r2 X.K (.cmp op)):=by
 intro pins s Z H x y v u Q I rx ry h;obtain⟨d,e,g,ρ,R,gW,re,d',g',⟨x',y',b,ex,h,rfl,rfl⟩,q⟩:=h;obtain⟨rfl,rfl⟩:=x8 ex;have fin:=q.now R (.bl b);have ny:∀{P:Int->Int->Bool},(∃i j,d=.int i/\e=.int j/\b=P i j)->∃i j,x=.int i/\y=.int j/\b=P i j:=λhh=>by
  obtain⟨i,j,z1,z2,z3⟩:=hh;exact⟨i,j,(z1▸gW).i8,(z2▸re).i8,z3⟩
 cases op
 ·exact Fx hu I rx ry R gW re h false (by simpa using fin)
 ·exact Fx hu I rx ry R gW re h true (by simpa using fin)
 ·obtain⟨i,j,e1,e2,e3⟩:=ny (P:=λi j=>decide (i<j)) h;exact VG pins s Z H _ _ v u Q I rx ry ⟨i,j,e1,e2,by subst e3;exact fin⟩
 ·obtain⟨i,j,e1,e2,e3⟩:=ny (P:=λi j=>decide (i<=j)) h;exact VF pins s Z H _ _ v u Q I rx ry ⟨i,j,e1,e2,by subst e3;exact fin⟩
 ·obtain⟨i,j,e1,e2,e3⟩:=ny (P:=λi j=>decide (j<i)) h;exact VE pins s Z H _ _ v u Q I rx ry ⟨i,j,e1,e2,by subst e3;exact fin⟩
 ·obtain⟨i,j,e1,e2,e3⟩:=ny (P:=λi j=>decide (j<=i)) h;exact VD pins s Z H _ _ v u Q I rx ry ⟨i,j,e1,e2,by subst e3;exact fin⟩
 ·obtain⟨rfl,rfl⟩:=(show _/\_ from h)
  obtain rfl:=re.CC;refine Xp pins s Z H _ _ v u Q I rx ry ⟨rfl,?_⟩;have e:T1 d=decide (x=V.bc):=by cases gW<;>simp[T1]
  rw[<- e];exact fin
 ·obtain⟨rfl,rfl⟩:=(show _/\_ from h)
  obtain rfl:=re.CC;refine Qb pins s Z H _ _ v u Q I rx ry ⟨rfl,?_⟩;have e:T1 d=decide (x=V.bc):=by cases gW<;>simp[T1]
  rw[<- e];exact fin
 ·rcases h with h|⟨a,S,n,i,rfl,ha,rfl,rfl⟩
  ·exact in_of hu I rx ry R gW re h false (by simpa using fin)
  ·obtain⟨a',rfl,ra⟩:=re.f6;obtain rfl:=gW.i8;exact a18 pins s Z H _ _ v u Q I rx ry ⟨i,a',S,n,rfl,rfl,R.set ha ra,fin⟩
 ·rcases h with h|⟨a,S,n,i,rfl,ha,rfl,hb⟩
  ·exact in_of hu I rx ry R gW re h true (by simpa using fin)
  ·obtain⟨a',rfl,ra⟩:=re.f6;obtain rfl:=gW.i8;exact aG1 pins s Z H _ _ v u Q I rx ry ⟨i,a',S,n,rfl,rfl,R.set ha ra,by rw[<- hb,Bool.not_not];exact fin⟩
theorem ON{K:PySem.W.Frag}(R:Rl K ρ g H)(r:d0 K ρ H d x)(h:Ff g d b):AB K x H b:=by
 rcases h with z|rfl|⟨i,rfl,rfl⟩|z
 ·exact z.elim
 ·obtain rfl:=r.M5;rfl
 ·obtain rfl:=r.i8;rfl
 ·exact z.elim
theorem OZ{K ρ H}{i:Int}(r:b7 K ρ H l vs)(h:iH l i=some d):∃v,iH vs i=some v/\d0 K ρ H d v:=by
 unfold iH at h ⊢;rw[<- r.length];cases e:mz l.length i with
 |none=>simp_all
 |some j =>
  rw[e] at h;exact r.get h
theorem wQ{K ρ H}{x:D}(R:Rl K ρ g H)(r:d0 K ρ H x v)(h:D9 g x=some l):∃a vs,v=.ref a/\b7 K ρ H l vs/\((∃i,x=.ref i/\ρ[i]?=some a)/\eQ K H a vs\/x=.tup l/\TupAt K H a vs):=by
 cases r with
 |tup ht rs=>cases h;exact⟨_,_,rfl,rs,.inr ⟨rfl,ht⟩⟩
 |ref ha=>obtain⟨vs,hq,rs⟩:=R.items h ha;exact⟨_,_,rfl,rs,.inl ⟨⟨_,rfl,ha⟩,hq⟩⟩
 |_=>cases h
theorem Vl(hu:X.A.units+100<cLine):sj X (r2 X.K .ix):=by
 intro value slice pins s Z H x y v u Q I rx ry h hs;obtain⟨d,e,g,ρ,R,gW,re,d',g',⟨rfl,h⟩,q⟩:=h;rcases h with⟨x',l,i,ex,hl,ha⟩|⟨a,kvs,y',c,ex,ha,hc,hv⟩|z
 ·obtain⟨rfl,rfl⟩:=x8 ex;obtain rfl:=re.i8;obtain⟨a,vs,rfl,rs,h⟩:=wQ R gW hl;obtain⟨w,hw,eW⟩:=OZ rs ha;rcases h with⟨_,hq⟩|⟨_,ht⟩
  ·exact Pw value slice pins s Z H _ _ v u Q I rx ry ⟨_,_,i,w,rfl,rfl,hq,hw,q.now R eW⟩ hs
  ·exact WV value slice pins s Z H _ _ v u Q I rx ry ⟨_,_,i,w,rfl,rfl,ht.sq,hw,q.now R eW⟩ hs
 ·obtain⟨rfl,rfl⟩:=x8 ex;obtain⟨a',rfl,ra⟩:=gW.f6;obtain⟨vs,z,rs⟩:=R.bC ha ra;have:=O0 hc re;subst this;have q2:=rs.val c;rw[hv] at q2;obtain⟨w,hw,eW⟩:=q2.some;exact Pu () value slice pins s Z H _ _ v u Q I rx ry ⟨_,w,rfl,by have:=Z6.k (k:=c) z;rw[hw] at this;exact this,q.now R eW⟩ hs
 ·exact z.elim
def Lf(K:PySem.W.Frag):V->Option Int->Option Int->Hp->VK->Prop:=λx lo hi H Q=>∃d g ρ d' g',Rl K ρ g H/\d0 K ρ H d x/\sI d lo hi g d' g'/\LQ K ρ H Q d' g'
theorem FR:vq X (Lf X.K):=by
 intro pins s Z H x v vl vu lo hi sl Q I rx hs pl pu h;obtain⟨d,g,ρ,d',g',R,gW,h,q⟩:=h;rcases h with⟨l,rfl,rfl,rfl⟩|⟨a,l,rfl,hl,rfl,rfl⟩
 ·obtain⟨a,vs,rfl,ht,rs⟩:=gW.J7;refine QR pins s Z H _ v vl vu lo hi sl Q I rx hs pl pu ⟨_,_,rfl,ht.sq,λz=>?_,λp hp=>q.tup R hp (rs.cut lo hi)⟩;refine q.now R (.tup ht ?_);have:=rs.cut lo hi
  simp_all
 ·obtain⟨a',rfl,ha⟩:=gW.f6;obtain⟨vs,hq,rs⟩:=R.items hl ha;exact QQ pins s Z H _ v vl vu lo hi sl Q I rx hs pl pu ⟨_,_,rfl,hq,λp hp=>q.new R hp (rs.cut lo hi)⟩
def TY(K:PySem.W.Frag):V->V->V->Hp->(Hp->Prop)->Prop:=λo i v H Q=>∃Ao di dv g ρ,Rl K ρ g H/\d0 K ρ H Ao o/\d0 K ρ H di i/\d0 K ρ H dv v/\Y4 Ao di dv g (λg'=>∀bH H',Ext ρ H bH H'->Rl K bH g' H'->Q H')
theorem Ol(hu:X.A.units+100<cLine):Az X (TY X.K):=by
 intro pins s Z H o i v ov iv u Q I ro ri rv h;obtain⟨Ao,di,dv,g,ρ,R,r1,r2,r3,g',h,q⟩:=h;rcases h with⟨a,i',l,j,rfl,rfl,hl,hj,rfl⟩|⟨a,kvs,c,rfl,ha,hc,hz,rfl⟩
 ·obtain⟨a',rfl,ha⟩:=r1.f6;obtain rfl:=r2.i8;obtain⟨vs,z,rs⟩:=R.lst hl ha;obtain⟨R',e'⟩:=R.write hl ha (rs.set r3 j);exact set_list pins s Z H _ _ _ ov iv u Q I ro ri rv ⟨_,vs,_,j,rfl,rfl,z,by rw[<- rs.length];exact hj,q ρ _ e' R'⟩
 ·obtain⟨a',rfl,ra⟩:=r1.f6;obtain⟨vs,z,rs⟩:=R.bC ha ra;have:=O0 hc r2;subst this;obtain⟨R',e'⟩:=R.put (o':=.bC (putD kvs c dv)) (u:=.dK (putK vs c v)) ha rfl ra (rs.put r3);cases ro;exact a50 () I (xt.k z (by rw[<- rs.length];exact AX hz)) ri rv λs' I'=>⟨_,I',q ρ _ e' R'⟩
theorem Xc:j8 X (.builtin "len") (rN X.K .len):=by
 intro pins s Z H xs us Q I r h;obtain⟨ds,g,ρ,R,rs,d',g',⟨rfl,h⟩,q⟩:=h;rcases h with⟨x,l,rfl,hl,rfl⟩|⟨a,kvs,rfl,ha,rfl⟩|z
 ·obtain⟨v,rfl,rv⟩:=rs.one;obtain⟨a,vs,rfl,rl,h⟩:=wQ R rv hl;refine ZQ pins s Z H _ us Q I r ⟨_,_,rfl,?_,by rw[<- rl.length];exact q.now R (.int _)⟩;exact h.imp (λz=>z.2) (λz=>z.2.sq)
 ·obtain⟨v,rfl,rv⟩:=rs.one;obtain⟨a',rfl,ra⟩:=rv.f6;obtain⟨vs,z,rk⟩:=R.bC ha ra;exact a56 pins s Z H _ us Q I r ⟨_,_,rfl,z,by rw[<- rk.length];exact q.now R (.int _)⟩
 ·exact z.elim
theorem Bh{K ρ H}:∀(ks:List Key),b7 K ρ H (ks.map kD) (ks.map kV)
 |[]=>.nil
 |.inl _::r=>.cons (.int _) (Bh r)
 |.inr _::r=>.cons (.str _) (Bh r)
theorem d5.keys{α:Type}{K ρ H}{ds:List (α×D)}{vs:List (α×V)}(h:d5 K ρ H ds vs):ds.map (·.1)=vs.map (·.1):=by
 induction h with
 |nil=>rfl
 |cons _ _ ih=>simp_all
theorem PJ(hc:X.calm=true):j8 X (.type "list") (rN X.K .list):=by
 intro pins s Z H xs us Q I r h;obtain⟨ds,g,ρ,R,rs,d',g',⟨x,l,rfl,hl,rfl,rfl⟩|⟨a,kvs,rfl,ha,hn,rfl,rfl⟩,q⟩:=h
 rotate_left
 ·obtain⟨v,rfl,rv⟩:=rs.one;obtain⟨a',rfl,ra⟩:=rv.f6;obtain⟨vs,z,rk⟩:=R.bC ha ra;exact Yc hc pins s Z H _ us Q I r ⟨_,vs,rfl,z,by rw[<- rk.length];exact hn,λp hp=>q (ρ++[p]) _ _ (u2 hp) (R.new hp (o:=.lst ((kvs.map (·.1)).map kD)) (u:=.lst ((vs.map (·.1)).map kV)) (by rw[rk.keys];exact Bh _)) (.ref (R.m7 p))⟩
 obtain⟨v,rfl,rv⟩:=rs.one;obtain⟨a,vs,rfl,rl,h⟩:=wQ R rv hl;exact ZR pins s Z H _ us Q I r ⟨_,_,rfl,h.imp (λz=>z.2) (λz=>z.2.sq),λp hp=>q.new R hp rl⟩
theorem Pt:j8 X (.builtin "isinstance") (rN X.K .isin):=by
 intro pins s Z H xs us Q I r h;obtain⟨ds,g,ρ,R,rs,d',g',⟨x,c,b,rfl,hc,hb,rfl,rfl⟩,q⟩:=h;obtain⟨v,w,rfl,r1,r2⟩:=rs.two;obtain rfl:=r2.Wt;have fin:=q.now R (.bl b);have go:∀(t:Value) (v:V),gs X.K H v t->PySem.W.kitOne X.K t (.type c)=some b->Vals [v,V.ty c] us->wpAny (model X.prog X.w) X.A (call (.builtin "isinstance") us) (EP X pins Z Q) X.xe s :=
  λt v ht hk r=>Zq pins s Z H _ us Q I r ⟨v,t,c,b,rfl,ht,hk,fin⟩
 simp only[List.mem_cons,List.mem_nil_iff,or_false] at hc;cases r1 with
 |bc=>refine go _ _ .bc ?_ r;cases hb;rcases hc with rfl|rfl|rfl|rfl|rfl<;>rfl
 |bl y=>refine go _ _ (.bl y) ?_ r;cases hb;rcases hc with rfl|rfl|rfl|rfl|rfl<;>rfl
 |int y=>refine go _ _ (.int y) ?_ r;cases hb;rcases hc with rfl|rfl|rfl|rfl|rfl<;>rfl
 |str y=>refine go _ _ (.str y) ?_ r;cases hb;rcases hc with rfl|rfl|rfl|rfl|rfl<;>rfl
 |ty _=>cases hb
 |tup ht rs =>
  cases hb;rcases ht with ht|ht
  ·refine go _ _ (.tup ht) ?_ r;rcases hc with rfl|rfl|rfl|rfl|rfl<;>rfl
  ·obtain⟨o,aX,n,lk,iF,_⟩:=ht;obtain⟨u,w',rfl,ru,eW⟩:=vals2 r;cases (show w'=Value.type c from eW);cases ru;have hk:PySem.W.kitOne X.K (.type "tuple") (.type c)=some (c=="tuple"):=by rcases hc with rfl|rfl|rfl|rfl|rfl<;>rfl
   exact bL KG I.fS ⟨o,I.fS _ _ lk,iF⟩ hk (λz=>nomatch z) λtk=>⟨.bl _,H,I.tok tk,rfl,fin⟩
 |@ref i a ha =>
  have tY:∃m,g'[i]?=some (.lst m)/\b=(c=="list"):=by
   simp only[qb] at hb;split at hb
   ·exact⟨_,by assumption,(aD hb).symm⟩
   ·cases hb
  obtain⟨m,e,rfl⟩:=tY;obtain⟨vs,z,_⟩:=R.lst e ha;refine go _ _ (.lst z) ?_ r;rcases hc with rfl|rfl|rfl|rfl|rfl<;>rfl
theorem YA:∀{l:List D} {b:Bool},Y1 l=some b->∃bs:List Bool,l=bs.map D.bl/\b=bs.all id:=by
 intro l
 induction l with
 |nil=>intro b h;cases h;exact⟨[],rfl,rfl⟩
 |cons d r ih =>
  intro b h;cases d<;>first|(cases h;done)|skip
  rename_i c;simp only[Y1] at h;cases e:Y1 r with
  |none=>simp_all
  |some b' =>
   rw[e] at h;cases h;obtain⟨bs,rfl,rfl⟩:=ih e;exact⟨c::bs,rfl,by simp⟩
theorem b7.Rf{K ρ H}:∀{bs:List Bool} {vs:List V},b7 K ρ H (bs.map D.bl) vs->vs=bs.map V.bl:=by
 intro bs
 induction bs with
 |nil=>intro vs h;cases h;rfl
 |cons b r ih =>
  intro vs h;cases h with
  |cons h rr=>rw[ih rr,h.M5];rfl
theorem WC(hc:X.calm=true):j8 X (.builtin "all") (rN X.K .all):=by
 intro pins s Z H xs us Q I r h;obtain⟨ds,g,ρ,R,rs,d',g',⟨a,l,b,rfl,hl,hb,rfl,rfl⟩,q⟩:=h;obtain⟨v,rfl,rv⟩:=rs.one;obtain⟨a',rfl,ra⟩:=rv.f6;obtain⟨vs,hq,rs⟩:=R.items hl ra;rcases hb with hb|⟨ns,rfl,rfl⟩
 rotate_left
 ·have:=rs.ints;subst this;exact a57 hc pins s Z H _ us Q I r ⟨_,ns,rfl,hq,q.now R (.bl _)⟩
 obtain⟨bs,rfl,rfl⟩:=YA hb;have:=rs.Rf;subst this;exact a58 hc pins s Z H _ us Q I r ⟨_,bs,rfl,hq,q.now R (.bl _)⟩
theorem Bg{K ρ H}:∀(ns:List Int),b7 K ρ H (ns.map D.int) (ns.map V.int)
 |[]=>.nil
 |_::r=>.cons (.int _) (Bg r)
theorem a85(hc:X.calm=true):j8 X (.builtin "sorted") (rN X.K .dR):=by
 intro pins s Z H xs us Q I r h;obtain⟨ds,g,ρ,R,rs,d',g',⟨a,kvs,ns,rfl,ha,hk,hn,rfl,rfl⟩|⟨x,ns,rfl,hx,hn,rfl,rfl⟩,q⟩:=h
 rotate_left
 ·obtain⟨v,rfl,rv⟩:=rs.one;obtain⟨a,vs,rfl,rl,h⟩:=wQ R rv hx;have:=rl.ints;subst this;exact Yd pins s Z H _ us Q I r ⟨_,ns,rfl,h.imp (λz=>z.2) (λz=>z.2.sq),hn,λp hp=>q (ρ++[p]) _ _ (u2 hp) (R.new hp (o:=.lst ((L7 ns).map .int)) (u:=.lst ((L7 ns).map V.int)) (Bg _)) (.ref (R.m7 p))⟩
 obtain⟨v,rfl,rv⟩:=rs.one;obtain⟨a',rfl,ra⟩:=rv.f6;obtain⟨vs,z1,rk⟩:=R.bC ha ra;exact Yn hc pins s Z H _ us Q I r ⟨_,vs,ns,rfl,z1,rk.keys.symm.trans hk,hn,λp hp=>q (ρ++[p]) _ _ (u2 hp) (R.new hp (o:=.lst ((j5 ns).map .int)) (u:=.lst ((j5 ns).map V.int)) (Bg _)) (.ref (R.m7 p))⟩
theorem OA(hc:X.calm=true):j8 X (.builtin "sum") (rN X.K .sum):=by
 intro pins s Z H xs us Q I r h;obtain⟨ds,g,ρ,R,rs,d',g',h,q⟩:=h;obtain⟨a,ns,rfl,hl,rfl,rfl⟩:=h;obtain⟨v,rfl,rv⟩:=rs.one;obtain⟨a',rfl,ra⟩:=rv.f6;obtain⟨vs,hq,rs⟩:=R.items hl ra;have:=rs.ints;subst this;exact a55 hc pins s Z H _ us Q I r ⟨_,ns,rfl,hq,q.now R (.int _)⟩
theorem WT:j8 X (.type "int") (rN X.K .int):=by
 intro pins s Z H xs us Q I r h;obtain⟨ds,g,ρ,R,rs,d',g',⟨rfl,h⟩,q⟩:=h;rcases h with⟨i,rfl,rfl⟩|⟨b,rfl,rfl⟩
 ·obtain⟨v,rfl,rv⟩:=rs.one;obtain rfl:=rv.i8;exact GC pins s Z H _ us Q I r (.inl ⟨i,rfl,q.now R (.int _)⟩)
 ·obtain⟨v,rfl,rv⟩:=rs.one;obtain rfl:=rv.M5;exact GC pins s Z H _ us Q I r (.inr ⟨b,rfl,q.now R (.int _)⟩)
def rM(K:PySem.W.Frag)(p:Pr):V->List V->Hp->VK->Prop:=λx xs H Q=>∃d ds g ρ,Rl K ρ g H/\d0 K ρ H d x/\b7 K ρ H ds xs/\cF p (d::ds) g (LQ K ρ H Q)
theorem O7{a b:D}{m:List D}(h:a::l=b::m):a=b/\l=m:=by cases h;exact⟨rfl,rfl⟩
theorem a65:kn X "list.append" (rM X.K .append):=by
 intro pins s Z H x xs v us Q I rx r h;obtain⟨d,ds,g,ρ,R,rd,rs,d',g',⟨a,y,l,ex,ha,hz,rfl,rfl⟩,q⟩:=h;obtain⟨rfl,rfl⟩:=O7 ex;obtain⟨a',rfl,ra⟩:=rd.f6;obtain⟨w,rfl,eW⟩:=rs.one;obtain⟨vs,z1,rv⟩:=R.lst ha ra;obtain⟨R2,e2⟩:=R.write ha ra (rv.append (.cons eW .nil));exact a25 pins s Z H _ _ v us Q I rx r ⟨_,vs,_,rfl,rfl,z1,by rw[<- rv.length];exact AX hz,q ρ _ _ e2 R2 .bc⟩
theorem Rv:kn X "list.clear" (rM X.K .clear):=by
 intro pins s Z H x xs v us Q I rx r h;obtain⟨d,ds,g,ρ,R,rd,rs,d',g',⟨a,l,ex,ha,rfl,rfl⟩,q⟩:=h;obtain⟨rfl,rfl⟩:=O7 ex;obtain⟨a',rfl,ra⟩:=rd.f6;cases rs;obtain⟨vs,z1,rv⟩:=R.lst ha ra;obtain⟨R2,e2⟩:=R.write ha ra (b7.nil);exact Sa pins s Z H _ _ v us Q I rx r ⟨_,vs,rfl,rfl,z1,q ρ _ _ e2 R2 .bc⟩
theorem Qr:kn X "list.pop" (rM X.K .pA):=by
 intro pins s Z H x xs v us Q I rx r h;obtain⟨d,ds,g,ρ,R,rd,rs,y,g',⟨a,l,ex,ha,rfl⟩,q⟩:=h;obtain⟨rfl,rfl⟩:=O7 ex;obtain⟨a',rfl,ra⟩:=rd.f6;cases rs;obtain⟨vs,z1,rv⟩:=R.lst ha ra;obtain⟨w,hw,eW⟩:=rv.get (i:=l.length) (d:=y) (by simp);have hl:vs.length=l.length+1:=by rw[<- rv.length];simp
 have rl:b7 X.K ρ H l vs.dropLast:=by
  have:=rv.erase l.length;rw[List.eraseIdx_append_of_length_le (au _)] at this;rw[show vs.eraseIdx l.length=vs.dropLast by rw[List.eraseIdx_eq_dropLast];omega] at this;simpa using this
 obtain⟨R2,e2⟩:=R.write ha ra rl;exact Xi pins s Z H _ _ v us Q I rx r ⟨_,vs,w,rfl,rfl,z1,by rw[hl];exact hw,q ρ _ _ e2 R2 (eW.ext e2)⟩
theorem PD(hc:X.calm=true):j8 X (.type "set") (rN X.K .pE):=by
 intro pins s Z H xs us Q I r h;obtain⟨ds,g,ρ,R,rs,d',g',⟨a,ns,rfl,ha,hz,rfl,rfl⟩,q⟩:=h;obtain⟨v,rfl,rv⟩:=rs.one;obtain⟨a',rfl,ra⟩:=rv.f6;obtain⟨vs,z1,rk⟩:=R.items ha ra;obtain rfl:=rk.ints;refine aB5 hc pins s Z H _ us Q I r ⟨a',ns,rfl,z1,hz,λp hp=>?_⟩;exact q (ρ++[p]) _ _ (u2 hp) (R.new hp (o:=.set (λk=>decide (k∈ns)) (ST.d7 [] ns).length) (u:=.set (λk=>decide (k∈ns)) (ST.d7 [] ns).length) ⟨rfl,rfl⟩) (.ref (R.m7 p))
theorem Sw:kn X "list.pop" (rM X.K .pop):=by
 intro pins s Z H x xs v us Q I rx r h;obtain⟨d,ds,g,ρ,R,rd,rs,y,g',⟨a,i,l,k,ex,ha,h1,h2,hk,hy,rfl⟩,q⟩:=h;obtain⟨rfl,rfl⟩:=O7 ex;obtain⟨a',rfl,ra⟩:=rd.f6;obtain⟨w,rfl,eW⟩:=rs.one;obtain rfl:=eW.i8;obtain⟨vs,z1,rv⟩:=R.lst ha ra;obtain⟨w,hw,eW⟩:=rv.get hy;obtain⟨R2,e2⟩:=R.write ha ra (rv.erase k);exact Sb pins s Z H _ _ v us Q I rx r ⟨_,vs,i,k,w,rfl,rfl,z1,h1,h2,by rw[<- rv.length];exact hk,hw,q ρ _ _ e2 R2 (eW.ext e2)⟩
theorem b7.strs{K ρ H}{ys:List Str}(h:b7 K ρ H (ys.map D.str) vs):vs=ys.map V.str:=by
 induction ys generalizing vs with
 |nil=>cases h;rfl
 |cons y ys ih =>
  cases h with
  |cons q r=>cases q;rw[ih r];rfl
theorem ty_list(R:Rl X.K ρ g H)(r:d0 X.K ρ H d v)(h:∃a l,d=.ref a/\c9 g a=some l):mx X.K "list" v H:=by
 obtain⟨a,l,rfl,hl⟩:=h;obtain⟨a',rfl,ra⟩:=r.f6;obtain⟨vs,hq,_⟩:=R.items hl ra;exact .inl ⟨rfl,vs,hq⟩
theorem QB:kn X "set.add" (rM X.K .jo):=by
 intro pins s Z H x xs v us Q I rx r h;obtain⟨d,ds,g,ρ,R,rd,rs,d',g',⟨a,i,S,n,ex,ha,hn,rfl,rfl⟩,q⟩:=h;obtain⟨rfl,rfl⟩:=O7 ex;obtain⟨a',rfl,ra⟩:=rd.f6;obtain⟨w,rfl,eW⟩:=rs.one;obtain rfl:=eW.i8;obtain⟨R2,e2⟩:=R.put (o':=.set (λk=>S k||decide (k=i)) (if S i then n else n+1)) (u:=.set (λk=>S k||decide (k=i)) (if S i then n else n+1)) ha rfl ra ⟨rfl,rfl⟩;exact YY pins s Z H _ _ v us Q I rx r ⟨_,i,S,n,rfl,rfl,R.set ha ra,hn,q ρ _ _ e2 R2 .bc⟩
theorem ty_set(R:Rl X.K ρ g H)(r:d0 X.K ρ H d v)(h:kY .jo d g):mx X.K "set" v H:=by
 obtain⟨a,S,n,rfl,hl⟩:=h;obtain⟨a',rfl,ra⟩:=r.f6;exact .inr (.inr (.inr ⟨rfl,S,n,R.set hl ra⟩))
theorem Pj:kn X "dict.pop" (rM X.K .ir):=by
 intro pins s Z H x xs v us Q I rx r h;obtain⟨d,ds,g,ρ,R,rd,rs,d',g',⟨a,y,kvs,c,ex,ha,hc,hv,rfl⟩,q⟩:=h;obtain⟨rfl,rfl⟩:=O7 ex;obtain⟨a',rfl,ra⟩:=rd.f6;obtain⟨w1,rfl,r1⟩:=rs.one;obtain⟨vs,z1,rv⟩:=R.bC ha ra;have:=O0 hc r1;subst this;cases rx;have q2:=rv.val c;rw[hv] at q2;obtain⟨w,hw,q2⟩:=q2.some;obtain⟨R2,e2⟩:=R.put (o':=.bC (delD kvs c)) (u:=.dK (qi vs c)) ha rfl ra (rv.drop c);cases r with
 |cons r rr =>
 cases rr;exact UW I z1 r hw (.inl rfl) λw' s3 I3 eW=>⟨w,_,I3,eW,q ρ _ _ e2 R2 (q2.ext e2)⟩
theorem ty_dict(R:Rl X.K ρ g H)(r:d0 X.K ρ H d v)(h:kY .get d g):mx X.K "dict" v H:=by
 obtain⟨a,l,rfl,hl⟩:=h;obtain⟨a',rfl,ra⟩:=r.f6;obtain⟨vs,hq,_⟩:=R.bC hl ra;exact .inr (.inr (.inl ⟨rfl,.inl ⟨vs,hq⟩⟩))
noncomputable abbrev gJ:=List Str×XK
def LX(K:PySem.W.Frag)(ρ:List Addr)(H:Hp)(Ξ:gJ):KX:=λx g'=>∀bH H' C,Ext ρ H bH H'->Rl K bH g' H'->x.cls∈Ξ.1->l5 K x.cls C->Ξ.2 (.ref C) none H'
theorem LX.ext{K:PySem.W.Frag}{bN:List Addr}{H1:Hp}{Ξ:gJ}(e:Ext ρ H bN H1){x:Xn}(h:LX K ρ H Ξ x g):LX K bN H1 Ξ x g:=λbH H' C e' R hm c=>h bH H' C (e.trans e') R hm c
noncomputable abbrev mS(ex:List Str):gJ:=(ex,λ_ _ _=>False)
def LE(K:PySem.W.Frag)(Ξ:gJ)(t:S->G->KD->KX->Prop):TE:=λbQ H Q=>∃Z g ρ,k6 K ρ H Z bQ/\Rl K ρ g H/\t Z g (LQ K ρ H Q) (LX K ρ H Ξ)
def LT(K:PySem.W.Frag)(Ξ:gJ)(t:S->G->(Bool->G->Prop)->KX->Prop):TT:=λbQ H Q=>∃Z g ρ,k6 K ρ H Z bQ/\Rl K ρ g H/\t Z g (λb g'=>∀bH H',Ext ρ H bH H'->Rl K bH g' H'->Q b H') (LX K ρ H Ξ)
def LA(K:PySem.W.Frag)(Ξ:gJ)(t:S->G->(List D->G->Prop)->KX->Prop):TA:=λbQ H Q=>∃Z g ρ,k6 K ρ H Z bQ/\Rl K ρ g H/\t Z g (λds g'=>∀bH H' vs,Ext ρ H bH H'->Rl K bH g' H'->b7 K bH H' ds vs->Q vs H') (LX K ρ H Ξ)
def Z5(K:PySem.W.Frag)(fz:List Addr)(H0:Hp)(k:IK)(J:It):Prop:=∀ρ g H,Ext fz H0 ρ H->Rl K ρ g H->∀i,(k.at i g=some none->J.stop i H) /\
 ∀d,k.at i g=some (some d)->J.go i H/\∀v H',J.mq i H v H'->Ext ρ H ρ H'/\Rl K ρ g H'/\d0 K ρ H' d v
def LI(K:PySem.W.Frag)(Ξ:gJ)(t:S->G->(IK->G->Prop)->KX->Prop):TI:=λbQ H R=>∃Z g ρ,k6 K ρ H Z bQ/\Rl K ρ g H/\t Z g (λk g'=>∀bH H' J,Ext ρ H bH H'->Rl K bH g' H'->Z5 K bH H' k J->R J H') (LX K ρ H Ξ)
def LG(K:PySem.W.Frag)(t:MT):TG:=λv bQ H Q=>∃d Z g ρ,k6 K ρ H Z bQ/\Rl K ρ g H/\d0 K ρ H d v/\jh t d Z (λbT=>∀cG,k6 K ρ H bT cG->Q cG H)
def LN(K:PySem.W.Frag)(ρ:List Addr)(H:Hp)(N:L2.Ends):Ends where
 nx:=λbT g'=>∀bH H' cG,Ext ρ H bH H'->Rl K bH g' H'->k6 K bH H' bT cG->N.nx cG H'
 rt:=LQ K ρ H N.rt
 bk:=λbT g'=>∀bH H' cG,Ext ρ H bH H'->Rl K bH g' H'->k6 K bH H' bT cG->N.bk cG H'
 ct:=λbT g'=>∀bH H' cG,Ext ρ H bH H'->Rl K bH g' H'->k6 K bH H' bT cG->N.ct cG H'
def LS(K:PySem.W.Frag)(Ξ:gJ)(t:Ends->S->G->KX->Prop):TS:=λN bQ H=>∃Z g ρ,k6 K ρ H Z bQ/\Rl K ρ g H/\t (LN K ρ H N) Z g (LX K ρ H Ξ)
end M
namespace L2
open PySem PySem.Spec PyProof.Rows
variable{t t':TT}
section
variable{X:Cx}{e:Expr}
theorem PE.imp{t t':TE}(h:PE X e t)(i:∀Z H Q,t' Z H Q->t Z H Q):PE X e t':=λpins s Z H Q I q=>h pins s Z H Q I (i Z H Q q)
theorem PT.imp(h:PT X e t)(i:∀Z H Q,t' Z H Q->t Z H Q):PT X e t':=λpins s Z H Q I q=>h pins s Z H Q I (i Z H Q q)
theorem PW.imp(h:PW X e t)(i:∀Z H Q,t' Z H Q->t Z H Q):PW X e t':=λw pins s Z H Q I q=>h w pins s Z H Q I (i Z H Q q)
theorem PA.imp{es:List Expr}{t t':TA}(h:PA X es t)(i:∀Z H Q,t' Z H Q->t Z H Q):PA X es t':=λp pins s Z H Q I q=>h p pins s Z H Q I (i Z H Q q)
theorem iO.imp{es:List Expr}(h:iO X es t)(i:∀Z H Q,t' Z H Q->t Z H Q):iO X es t':=λpins s Z H Q I q=>h pins s Z H Q I (i Z H Q q)
theorem PI.imp{tg:Expr}{t t':TI}(h:PI X tg e t)(i:∀Z H Q,t' Z H Q->t Z H Q):PI X tg e t':=λpins s Z H Q I q=>h pins s Z H Q I (i Z H Q q)
theorem PG.imp{t t':TG}(h:PG X e t)(i:∀v Z H Q,t' v Z H Q->t v Z H Q):PG X e t':=λpins s Z H v u Q I r q=>h pins s Z H v u Q I r (i v Z H Q q)
theorem PS.imp{st:Stmt}{t t':TS}(h:PS X st t)(i:∀N Z H,t' N Z H->t N Z H):PS X st t':=λpins s Z H N I q=>h pins s Z H N I (i N Z H q)
theorem iy.imp{st:List Stmt}{t t':TS}(h:iy X st t)(i:∀N Z H,t' N Z H->t N Z H):iy X st t':=λpins s Z H N I q=>h pins s Z H N I (i N Z H q)
end
end L2
namespace M
open PySem L2 PySem.Spec PyProof.Rows
variable{Ξ:gJ}{P:eB}{op gM:CmpOp}{rest es:List Expr}{gc mo:ME}{p2 q apos iX:Pos}{o:Expr}
section
variable{K:PySem.W.Frag}(hP:f9 P){ρ fz:List Addr}{H H0:Hp}{Z:S}{bQ:L2.St}{g:G}{m:ME}
include hP
theorem eM{Q0:KD}{Q:VK}(s:k6 K ρ H Z bQ)(R:Rl K ρ g H)(e0:Ext fz H0 ρ H)(h:aS P m Z g Q0 (LX K fz H0 Ξ))(k:∀x g1 bN H1 v1,Ext ρ H bN H1->Rl K bN g1 H1->d0 K bN H1 x v1->Q0 x g1->Q v1 H1):LE K Ξ (aS P m) bQ H Q :=
 ⟨Z,g,ρ,s,R,b8 hP m _ _ _ _ _ _ (λx g1 h bN H1 v1 e1 R1 r1=>k x g1 bN H1 v1 e1 R1 r1 h) (λ_ _ z=>LX.ext e0 z) h⟩
theorem iV{Q0:List D->G->Prop}{Q:List V->Hp->Prop}(s:k6 K ρ H Z bQ)(R:Rl K ρ g H)(e0:Ext fz H0 ρ H)(h:fc P m Z g Q0 (LX K fz H0 Ξ))(k:∀x g1 bN H1 v1,Ext ρ H bN H1->Rl K bN g1 H1->b7 K bN H1 x v1->Q0 x g1->Q v1 H1):LA K Ξ (fc P m) bQ H Q :=
 ⟨Z,g,ρ,s,R,B4 hP m _ _ _ _ _ _ (λx g1 h bN H1 v1 e1 R1 r1=>k x g1 bN H1 v1 e1 R1 r1 h) (λ_ _ z=>LX.ext e0 z) h⟩
theorem oa{Q0:Bool->G->Prop}{Q:Bool->Hp->Prop}(s:k6 K ρ H Z bQ)(R:Rl K ρ g H)(e0:Ext fz H0 ρ H)(h:dF P m Z g Q0 (LX K fz H0 Ξ))(k:∀t g1 bN H1,Ext ρ H bN H1->Rl K bN g1 H1->Q0 t g1->Q t H1):LT K Ξ (dF P m) bQ H Q :=
 ⟨Z,g,ρ,s,R,m4 hP m _ _ _ _ _ _ (λt g1 h bN H1 e1 R1=>k t g1 bN H1 e1 R1 h) (λ_ _ z=>LX.ext e0 z) h⟩
theorem qv{ms:MS}{N:L2.Ends}{N0:Ends}(s:k6 K ρ H Z bQ)(R:Rl K ρ g H)(e0:Ext fz H0 ρ H)(h:wpS P ms N0 Z g (LX K fz H0 Ξ))(k:N0.le (LN K ρ H N)):LS K Ξ (wpS P ms) N bQ H :=
 ⟨Z,g,ρ,s,R,wpS_mono hP ms _ _ _ _ _ _ k (λ_ _ z=>LX.ext e0 z) h⟩
end
theorem b7.kU{K ρ H}(lo:Int)(n:Nat):b7 K ρ H (z9 lo n) ((List.range n).map λ(k:Nat)=>V.int (lo+k)):=by
 have:∀l:List Nat,b7 K ρ H (l.map λ(k:Nat)=>D.int (lo+k)) (l.map λ(k:Nat)=>V.int (lo+k)):=by
  intro l
  induction l with
  |nil=>exact .nil
  |cons x r ih=>exact .cons (.int _) ih
 exact this _
section
variable{X:Cx}(hP:f9 P){a b c e:Expr}{ma mb mc:ME}{pos:Pos}{p:Pr}
include hP
theorem CI(h:PE X e (oh (r2 X.K p) (LE X.K Ξ (aS P ma)) (LE X.K Ξ (aS P mb)))):PE X e (LE X.K Ξ (aS P (.prim p (.cons ma (.cons mb .nil))))) :=
 h.imp λbQ H Q aZ=>by
  obtain⟨Z,g,ρ,s,R,h⟩:=aZ;exact eM hP s R (.refl _ _) h λx g1 bN H1 v1 e1 R1 r1 h=>eM hP (s.ext e1) R1 e1 h λy g2 dZ H2 v2 e2 R2 r2 h =>
   ⟨x,y,g2,dZ,R2,r1.ext e2,r2,m8 (λd g' h=>h.ext (e1.trans e2)) h⟩
theorem Oy(h:PT X e (uN (oh (r2 X.K (.cmp op)) (LE X.K Ξ (aS P ma)) (LE X.K Ξ (aS P mb))))):PT X e (LT X.K Ξ (dF P (.dQ (.prim (.cmp op) (.cons ma (.cons mb .nil)))))) :=
 h.imp λbQ H Q aZ=>by
  obtain⟨Z,g,ρ,s,R,h⟩:=aZ;refine eM hP s R (.refl _ _) h λx g1 bN H1 v1 e1 R1 r1 h=>eM hP (s.ext e1) R1 e1 h λy g2 dZ H2 v2 e2 R2 r2 h=>?_;obtain⟨d',g',h,q⟩:=h;obtain⟨x',y',t,ex,hc,rfl,rfl⟩:=id h;refine⟨x,y,g',dZ,R2,r1.ext e2,r2,_,_,h,λbH H' v e' R' r'=>?_⟩;obtain⟨t',ht,q⟩:=q;rcases ht with⟨z,_⟩|z|⟨i,z,_⟩|⟨l,z,_⟩|⟨a,l,z,_⟩<;>cases z
  exact⟨_,r'.M5,q bH H' (e1.trans (e2.trans e')) R'⟩
theorem Wa{op:UnaryOp}(ha:PE X a (LE X.K Ξ (aS P ma))):PE X (.UnaryOp op a pos) (LE X.K Ξ (aS P (.prim (.un op) (.cons ma .nil)))) :=
 (VP (VI op) ha).imp λbQ H Q aZ=>by
  obtain⟨Z,g,ρ,s,R,h⟩:=aZ;exact eM hP s R (.refl _ _) h λx g1 bN H1 v1 e1 R1 r1 h=>⟨x,g1,bN,R1,r1,m8 (λd g' h=>h.ext e1) h⟩
theorem Ju:∀bQ H Q,LE X.K Ξ (aS P (.chain op gM ma mb mc)) bQ H Q->CK (r2 X.K (.cmp op)) (r2 X.K (.cmp gM)) (LE X.K Ξ (aS P ma)) (LE X.K Ξ (aS P mb)) (LE X.K Ξ (aS P mc)) bQ H Q:=λbQ H Q aZ=>by
 obtain⟨Z,g,ρ,s,R,h⟩:=aZ;refine eM hP s R (.refl _ _) h λx g1 bN H1 v1 e1 R1 r1 h=>eM hP (s.ext e1) R1 e1 h λy g2 dZ H2 v2 e2 R2 r2 h=>?_;refine⟨x,y,g2,dZ,R2,r1.ext e2,r2,m8 (λd g3 h ik H3 v3 e3 R3 r3=>?_) h⟩;obtain⟨t,rfl,h⟩:=h;obtain rfl:=r3.M5;refine⟨t,rfl,?_⟩;cases t
 ·exact h ik H3 _ (e1.trans (e2.trans e3)) R3 (.bl _)
 ·exact eM hP (s.ext (e1.trans (e2.trans e3))) R3 (e1.trans (e2.trans e3)) h λz g4 kz H4 v4 e4 R4 r4 h =>
   ⟨y,z,g4,kz,R4,r2.ext (e3.trans e4),r4,m8 (λd g' h=>h.ext (e1.trans (e2.trans (e3.trans e4)))) h⟩
theorem a97(hu:X.A.units+100<cLine)(ha:PE X a (LE X.K Ξ (aS P ma)))(hb:PE X b (LE X.K Ξ (aS P mb)))(hc:PE X c (LE X.K Ξ (aS P mc)))(hm:lastMarks [op,gM] [b,c]=false) :
  PE X (.Compare a [op,gM] [b,c] pos) (LE X.K Ξ (aS P (.chain op gM ma mb mc))):=(Sk (rZ hu op) (rZ hu gM) ha hb hc hm).imp (Ju hP)
theorem Ru{Z:S}{g:G}{Q:Bool->G->Prop}{E:KX}(h:dF P (.dQ (.chain op gM ma mb mc)) Z g Q E):aS P (.chain op gM ma mb mc) Z g (λd g'=>∃t,d=.bl t/\Q t g') E:=by
 have one:∀{o:CmpOp} {xs:List D} {g:G},cF (.cmp o) xs g (λd g1=>oQ g1 d λb=>Q b g1)->cF (.cmp o) xs g λd g'=>∃t,d=.bl t/\Q t g':=by
  intro o xs g h;obtain⟨d',g',h,t',ht,q⟩:=h;obtain⟨x',y',t,ex,hc,rfl,rfl⟩:=id h;refine⟨_,_,h,t',?_,q⟩;rcases ht with⟨z,_⟩|z|⟨i,z,_⟩|⟨l,z,_⟩|⟨a,l,z,_⟩<;>first|exact z|cases z
 refine b8 hP ma _ _ _ _ _ _ (λx g1 h=>b8 hP mb _ _ _ _ _ _ (λy g2 h=>m8 (λz g3 h=>?_) h) (λ_ _ z=>z) h) (λ_ _ z=>z) h;obtain⟨t,rfl,h⟩:=h;refine⟨t,rfl,?_⟩;cases t
 ·obtain⟨b,hb,q⟩:=(show oQ g3 (.bl false) λb=>Q b g3 from h)
  rcases hb with⟨z,_⟩|z|⟨i,z,_⟩|⟨l,z,_⟩|⟨a,l,z,_⟩<;>first|(cases z;exact⟨_,rfl,q⟩)|cases z
 ·exact b8 hP mc _ _ _ _ _ _ (λw g4 h=>one h) (λ_ _ z=>z) h
theorem a84(hu:X.A.units+100<cLine)(ha:PE X a (LE X.K Ξ (aS P ma)))(hb:PE X b (LE X.K Ξ (aS P mb)))(hc:PE X c (LE X.K Ξ (aS P mc)))(hm:lastMarks [op,gM] [b,c]=false) :
  PT X (.Compare a [op,gM] [b,c] pos) (LT X.K Ξ (dF P (.dQ (.chain op gM ma mb mc)))) :=
 (SD (rZ hu op) (rZ hu gM) ha hb hc hm).imp λbQ H Q ⟨Z,g,ρ,s,R,h⟩ =>
  Ju hP bQ H _ (eM hP s R (.refl _ _) (Ru hP h) λx g1 bN H1 v1 e1 R1 r1 h=>by
   obtain⟨t,rfl,h⟩:=h;exact ⟨t,r1.M5,h bN H1 e1 R1⟩)
theorem Oc(ha:PE X a (LE X.K Ξ (aS P ma)))(hb:PE X (.BoolOp .And (b::rest) pos) (LE X.K Ξ (aS P mb))):PE X (.BoolOp .And (a::b::rest) pos) (LE X.K Ξ (aS P (.dC ma mb))) :=
 (Xy ha hb).imp λbQ H Q aZ=>by
  obtain⟨Z,g,ρ,s,R,h⟩:=aZ;refine eM hP s R (.refl _ _) h λx g1 bN H1 v1 e1 R1 r1 h=>?_;obtain⟨t,rfl,h⟩:=h;refine⟨t,r1.M5,?_⟩;cases t
  ·exact h bN H1 _ e1 R1 (.bl _)
  ·exact eM hP (s.ext e1) R1 e1 h λy g2 dZ H2 v2 e2 R2 r2 h=>h dZ H2 v2 (e1.trans e2) R2 r2
theorem V'(ha:PE X a (LE X.K Ξ (aS P ma)))(hb:PE X (.BoolOp .Or (b::rest) pos) (LE X.K Ξ (aS P mb))):PE X (.BoolOp .Or (a::b::rest) pos) (LE X.K Ξ (aS P (.gX ma mb))) :=
 (VO ha hb).imp λbQ H Q aZ=>by
  obtain⟨Z,g,ρ,s,R,h⟩:=aZ;refine eM hP s R (.refl _ _) h λx g1 bN H1 v1 e1 R1 r1 h=>?_;obtain⟨t,rfl,h⟩:=h;refine⟨t,r1.M5,?_⟩;cases t
  ·exact eM hP (s.ext e1) R1 e1 h λy g2 dZ H2 v2 e2 R2 r2 h=>h dZ H2 v2 (e1.trans e2) R2 r2
  ·exact h bN H1 _ e1 R1 (.bl _)
theorem Oh(ha:PE X a (LE X.K Ξ (aS P ma))):PE X (.UnaryOp .Not a pos) (LE X.K Ξ (aS P (.cO ma))) :=
 (XE ha).imp λbQ H Q aZ=>by
  obtain⟨Z,g,ρ,s,R,h⟩:=aZ;refine eM hP s R (.refl _ _) h λx g1 bN H1 v1 e1 R1 r1 h=>?_;obtain⟨t,rfl,h⟩:=h;exact⟨t,r1.M5,h bN H1 _ e1 R1 (.bl _)⟩
theorem Og(hc:PT X c (LT X.K Ξ (dF P mc)))(ha:PE X a (LE X.K Ξ (aS P ma)))(hb:PE X b (LE X.K Ξ (aS P mb))):PE X (.IfExp c a b pos) (LE X.K Ξ (aS P (.ite mc ma mb))) :=
 (Sm hc ha hb).imp λbQ H Q aZ=>by
  obtain⟨Z,g,ρ,s,R,h⟩:=aZ;refine oa hP s R (.refl _ _) h λt g1 bN H1 e1 R1 h=>?_;cases t
  ·exact eM hP (s.ext e1) R1 e1 h λy g2 dZ H2 v2 e2 R2 r2 h=>h dZ H2 v2 (e1.trans e2) R2 r2
  ·exact eM hP (s.ext e1) R1 e1 h λy g2 dZ H2 v2 e2 R2 r2 h=>h dZ H2 v2 (e1.trans e2) R2 r2
theorem Oi{k:Nat}(h:PA X es (LA X.K Ξ (fc P gc))):PE X (.Tuple es k pos) (LE X.K Ξ (aS P (.prim .tup gc))) :=
 (XH h).imp λbQ H Q aZ=>by
  obtain⟨Z,g,ρ,s,R,h⟩:=aZ;refine iV hP s R (.refl _ _) h λds g1 bN H1 vs e1 R1 r1 h=>?_;obtain⟨d',g',⟨hz,rfl,rfl⟩,q⟩:=h;exact⟨by rw[<- r1.length];exact B5 (aA hz ∅),λp hp=>(q.ext e1).tup R1 hp r1⟩
theorem Ih(h:PA X es (LA X.K Ξ (fc P gc))):PE X (.List es pos) (LE X.K Ξ (aS P (.prim .lst gc))) :=
 (XC h).imp λbQ H Q aZ=>by
  obtain⟨Z,g,ρ,s,R,h⟩:=aZ;refine iV hP s R (.refl _ _) h λds g1 bN H1 vs e1 R1 r1 h=>?_;obtain⟨d',g',⟨hz,rfl,rfl⟩,q⟩:=h;exact⟨by rw[<- r1.length];exact B5 (aA hz ∅),λp hp=>(q.ext e1).new R1 hp r1⟩
theorem E7:PA X [] (LA X.K Ξ (fc P .nil)) :=
 (se (X:=X)).imp λbQ H Q aZ=>by
  obtain⟨Z,g,ρ,s,R,h⟩:=aZ;exact h ρ H [] (.refl _ _) R .nil
theorem v9(ha:PE X a (LE X.K Ξ (aS P ma)))(h:PA X es (LA X.K Ξ (fc P gc)))(hs:starEach (a::es) X.env=(false,eval a X.env)::starEach es X.env):PA X (a::es) (LA X.K Ξ (fc P (.cons ma gc))) :=
 (T3 ha h hs).imp λbQ H Q aZ=>by
  obtain⟨Z,g,ρ,s,R,h⟩:=aZ;exact eM hP s R (.refl _ _) h λx g1 bN H1 v1 e1 R1 r1 h=>iV hP (s.ext e1) R1 e1 h λxs g2 dZ H2 vs e2 R2 r2 h=>h dZ H2 _ (e1.trans e2) R2 (.cons (r1.ext e2) r2)
theorem a88(ha:PE X a (LE X.K Ξ (aS P ma)))(hb:PE X b (LE X.K Ξ (aS P mb))):PE X (.Subscript a (.Slice (some b) none none p2) pos) (LE X.K Ξ (aS P (.prim (.nk true false) (.cons ma (.cons mb .nil))))) :=
 (JI FR ha (Jc hb) Jb).imp λbQ H Q aZ=>by
  obtain⟨Z,g,ρ,s,R,h⟩:=aZ;refine eM hP s R (.refl _ _) h λx g1 bN H1 v1 e1 R1 r1 h=>eM hP (s.ext e1) R1 e1 h λy g2 dZ H2 v2 e2 R2 r2 h=>?_;obtain⟨d',g',⟨x',i,ex,h⟩,q⟩:=h;cases ex;exact⟨i,r2.i8,x,g2,dZ,d',g',R2,r1.ext e2,h,q.ext (e1.trans e2)⟩
theorem a89(ha:PE X a (LE X.K Ξ (aS P ma)))(hb:PE X b (LE X.K Ξ (aS P mb))):PE X (.Subscript a (.Slice none (some b) none p2) pos) (LE X.K Ξ (aS P (.prim (.nk false true) (.cons ma (.cons mb .nil))))) :=
 (JI FR ha Jb (Jc hb)).imp λbQ H Q aZ=>by
  obtain⟨Z,g,ρ,s,R,h⟩:=aZ;refine eM hP s R (.refl _ _) h λx g1 bN H1 v1 e1 R1 r1 h=>eM hP (s.ext e1) R1 e1 h λy g2 dZ H2 v2 e2 R2 r2 h=>?_;obtain⟨d',g',⟨x',i,ex,h⟩,q⟩:=h;cases ex;exact⟨i,r2.i8,x,g2,dZ,d',g',R2,r1.ext e2,h,q.ext (e1.trans e2)⟩
theorem Oz(ha:PE X a (LE X.K Ξ (aS P ma)))(he:∀whole,isTrue a X.env whole=(do let v <- whole;standAt a.pos;holding [v] (truthy v))):PT X a (LT X.K Ξ (dF P (.dQ ma))) :=
 (SE ha he).imp λbQ H Q aZ=>by
  obtain⟨Z,g,ρ,s,R,h⟩:=aZ;refine eM hP s R (.refl _ _) h λx g1 bN H1 v1 e1 R1 r1 h=>?_;obtain⟨b,h1,h2⟩:=h;exact⟨b,ON R1 r1 h1,h2 bN H1 e1 R1⟩
theorem Ox(ha:PT X a (LT X.K Ξ (dF P ma))):PT X (.UnaryOp .Not a pos) (LT X.K Ξ (dF P (.cO ma))) :=
 (XT ha).imp λbQ H Q aZ=>by
  obtain⟨Z,g,ρ,s,R,h⟩:=aZ;exact oa hP s R (.refl _ _) h λt g1 bN H1 e1 R1 h=>h bN H1 e1 R1
theorem OB(ha:PT X a (LT X.K Ξ (dF P ma)))(hb:PW X (.BoolOp .And (b::rest) pos) (LT X.K Ξ (dF P mb))):PW X (.BoolOp .And (a::b::rest) pos) (LT X.K Ξ (dF P (.dC ma mb))) :=
 (XU ha hb).imp λbQ H Q aZ=>by
  obtain⟨Z,g,ρ,s,R,h⟩:=aZ;refine oa hP s R (.refl _ _) h λt g1 bN H1 e1 R1 h=>?_;cases t
  ·exact h bN H1 e1 R1
  ·exact oa hP (s.ext e1) R1 e1 h λt g2 dZ H2 e2 R2 h=>h dZ H2 (e1.trans e2) R2
theorem Wc(ha:PT X a (LT X.K Ξ (dF P ma)))(hb:PW X (.BoolOp .Or (b::rest) pos) (LT X.K Ξ (dF P mb))):PW X (.BoolOp .Or (a::b::rest) pos) (LT X.K Ξ (dF P (.gX ma mb))) :=
 (VS ha hb).imp λbQ H Q aZ=>by
  obtain⟨Z,g,ρ,s,R,h⟩:=aZ;refine oa hP s R (.refl _ _) h λt g1 bN H1 e1 R1 h=>?_;cases t
  ·exact oa hP (s.ext e1) R1 e1 h λt g2 dZ H2 e2 R2 h=>h dZ H2 (e1.trans e2) R2
  ·exact h bN H1 e1 R1
theorem QS:iO X [] (LT X.K Ξ (dF P .no)) :=
 (Je (X:=X)).imp λbQ H Q aZ=>by
  obtain⟨Z,g,ρ,s,R,h⟩:=aZ;exact h ρ H (.refl _ _) R
theorem Od{x:Str}{v:Value}(hv:(∃id,v=.builtin id)\/∃T,v=.type T)(hc:j8 X v (rN X.K p))(hg:Gl X x)(hm:X.mg x=none)(hb:bootBuiltins x=some v)(ha:PA X (e::es) (LA X.K Ξ (fc P gc)))(hn:x≠"__name__")(hd:(x==("__debug__":Str))=false)(eP:starEach (e::es) X.env=(false,eval e X.env)::starEach es X.env)(fU:(backTo pos (starEach es X.env)).any (·.1)=false):PE X (.Call (.Name x q) (e::es) [] pos) (LE X.K Ξ (aS P (.prim p gc))):=by
 have base:PE X (.Call (.Name x q) (e::es) [] pos) (yk (rN X.K p) (LA X.K Ξ (fc P gc))):=by
  rcases hv with⟨id,rfl⟩|⟨T,rfl⟩
  ·exact xq hc hg hm hb ha hn hd eP fU
  ·exact Q2 hc hg hm hb ha hn hd eP fU
 refine base.imp λbQ H Q aZ=>?_;obtain⟨Z,g,ρ,s,R,h⟩:=aZ;exact iV hP s R (.refl _ _) h λxs g1 bN H1 vs e1 R1 r1 h=>⟨xs,g1,bN,R1,r1,m8 (λd g' h=>h.ext e1) h⟩
theorem Jk{T:String}{name:Str}{id:String}(pa:PlainAttrs T)(slot:Slot T name id)(pG:typeOf (.builtin id)=pure (.type "method_descriptor"))(hm:kn X id (rM X.K p))(hk:∀{d:D} {v:V} {g:G} {ρ:List Addr} {H:Hp},Rl X.K ρ g H->d0 X.K ρ H d v->kY p d g->mx X.K T v H)(ho:PE X o (LE X.K Ξ (aS P mo)))(ha:PA X (e::es) (LA X.K Ξ (fc P gc)))(fb:attributeBase o name X.env (eval o X.env)=eval o X.env)(jT:((backTo pos (starEach (e::es) X.env)).all (λx=>!x.1)&&(backToKw pos (keywordEach [] X.env)).all (λx=>x.1.isSome)&&decide ((e::es).length+([]:List Keyword).length+(if([]:List Keyword).isEmpty then 0 else 1)<30))=true)(eZ:(apos.endLine==pos.line)=true)(hs:starEach (e::es) X.env=(false,eval e X.env)::starEach es X.env)(eE:(backTo pos (starEach es X.env)).any (·.1)=false) :
  PE X (.Call (.Attribute o name apos) (e::es) [] pos) (LE X.K Ξ (aS P (.dI p mo gc))) :=
 (VM pa slot pG hm ho ha fb jT eZ hs eE).imp λbQ H Q aZ=>by
  obtain⟨Z,g,ρ,s,R,h⟩:=aZ;exact eM hP s R (.refl _ _) h λx g1 bN H1 v1 e1 R1 r1 h=>⟨hk R1 r1 h.1,iV hP (s.ext e1) R1 e1 h.2 λxs g2 dZ H2 ws e2 R2 r2 h =>
   ⟨x,xs,g2,dZ,R2,r1.ext e2,r2,m8 (λd g' h=>h.ext (e1.trans e2)) h⟩⟩
theorem a92{T:String}{name:Str}{id:String}(pa:PlainAttrs T)(slot:Slot T name id)(pG:typeOf (.builtin id)=pure (.type "method_descriptor"))(hm:kn X id (rM X.K p))(hk:∀{d:D} {v:V} {g:G} {ρ:List Addr} {H:Hp},Rl X.K ρ g H->d0 X.K ρ H d v->kY p d g->mx X.K T v H)(ho:PE X o (LE X.K Ξ (aS P mo)))(fb:attributeBase o name X.env (eval o X.env)=eval o X.env)(eZ:(apos.endLine==pos.line)=true) :
  PE X (.Call (.Attribute o name apos) [] [] pos) (LE X.K Ξ (aS P (.dI p mo .nil))) :=
 (Xz pa slot pG hm ho fb eZ).imp λbQ H Q aZ=>by
  obtain⟨Z,g,ρ,s,R,h⟩:=aZ;exact eM hP s R (.refl _ _) h λx g1 bN H1 v1 e1 R1 r1 h=>⟨hk R1 r1 h.1,x,[],g1,bN,R1,r1,.nil,m8 (λd g' h=>h.ext e1) h.2⟩
omit hP in
theorem Jz{K ρ H}{d:D}{v:V}(r:d0 K ρ H d v)(h:xJ d=true):v=toV d/\E5 v=true:=by
 cases r with
 |bc=>exact⟨rfl,rfl⟩
 |bl _=>exact⟨rfl,rfl⟩
 |int _=>exact⟨rfl,rfl⟩
 |str _=>exact⟨rfl,rfl⟩
 |ty _=>exact absurd h cA
 |ref _=>exact absurd h cA
 |tup _ _=>exact absurd h cA
omit hP in
theorem a46{K ρ H}{l:List D}{vs:List V}(r:b7 K ρ H l vs)(h:l.all xJ=true):vs=l.map toV/\vs.all E5=true:=by
 induction l generalizing vs with
 |nil=>cases r;exact⟨rfl,rfl⟩
 |cons d l ih =>
  cases r with
  |cons rd rs =>
   rw[gn,aT] at h;obtain⟨e1,f1⟩:=Jz rd h.1;obtain⟨e2,f2⟩:=ih rs h.2;subst e1 e2;exact⟨rfl,by rw[gn,f1,f2];rfl⟩
omit hP in
theorem a47{K ρ H}{l:List D}{vs:List V}{y:D}{w:V}{n:Nat}(r:b7 K ρ H l vs)(ry:d0 K ρ H y w)(h:wH l y n):AL vs w n:=by
 obtain⟨h1,h2,⟨z,h3,h4⟩,h5⟩:=h;obtain⟨e1,f1⟩:=a46 r h1;obtain⟨e2,f2⟩:=Jz ry h2;subst e1 e2;refine⟨f1,f2,⟨toV z,by rw[ah,h3];rfl,h4⟩,λm z' hm hz=>?_⟩;rw[ah,aa] at hz;obtain⟨KN,hz,rfl⟩:=hz;exact h5 m KN hm hz
theorem a96(hu:X.A.units+100<cLine)(ho:PE X o (LE X.K Ξ (aS P mo)))(ha:PA X (e::es) (LA X.K Ξ (fc P gc)))(fb:attributeBase o "index" X.env (eval o X.env)=eval o X.env)(jT:((backTo pos (starEach (e::es) X.env)).all (λx=>!x.1)&&(backToKw pos (keywordEach [] X.env)).all (λx=>x.1.isSome)&&decide ((e::es).length+([]:List Keyword).length+(if([]:List Keyword).isEmpty then 0 else 1)<30))=true)(eZ:(apos.endLine==pos.line)=true)(hs:starEach (e::es) X.env=(false,eval e X.env)::starEach es X.env)(eE:(backTo pos (starEach es X.env)).any (·.1)=false) :
  PE X (.Call (.Attribute o "index" apos) (e::es) [] pos) (LE X.K Ξ (aS P (.dI .index mo gc))) :=
 (Sn hu ho ha fb jT eZ hs eE).imp λbQ H Q aZ=>by
  obtain⟨Z,g,ρ,s,R,h⟩:=aZ;refine eM hP s R (.refl _ _) h λx g1 bN H1 v1 e1 R1 r1 h=>?_;obtain⟨hk,h⟩:=h;obtain⟨a,l,rfl,hl⟩:=hk
  ·obtain⟨a',rfl,ra⟩:=r1.f6;obtain⟨vs,hq,_⟩:=R1.items hl ra;refine⟨a',vs,rfl,hq,iV hP (s.ext e1) R1 e1 h λxs g2 dZ H2 ws e2 R2 r2 h=>?_⟩;obtain⟨d',g',⟨x,y,l',n,ex,hi,W,hz,rfl,rfl⟩,q⟩:=h;cases ex;obtain⟨w,rfl,eW⟩:=r2.one;obtain⟨nZ,Mc,lD⟩:=R2.items (show c9 _ a=some l' from hi) (e2.get ra);have hn:n<2 ^ 62:=by
     obtain⟨_,_,⟨z,DS,_⟩,_⟩:=W;have:=(ao.mp DS).1;omega
   exact⟨a',nZ,w,n,rfl,rfl,Mc,a47 lD eW W,hn,(q.ext (e1.trans e2)).now R2 (.int n)⟩
theorem a95(hc:X.calm=true)(ha:PE X a (LE X.K Ξ (aS P ma)))(lR:Gl X "list")(nE:X.mg "list"=none)(hg:Gl X "range")(hm:X.mg "range"=none)(hs:starEach [a] X.env=[(false,eval a X.env)]) :
  PE X (.Call (.Name "list" p2) [.Call (.Name "range" q) [a] [] pos] [] iX) (LE X.K Ξ (aS P (.prim .lI (.cons ma .nil)))) :=
 (Q2 (HX hc) lR nE (by rfl) (T3 (a12 hg hm (v9 hP ha (E7 hP) (by rw[hs];rfl)) hs) se)).imp λbQ H Q aZ=>by
  obtain⟨Z,g,ρ,s,R,h⟩:=aZ;refine iV hP s R (.refl _ _) h λxs g1 bN H1 vs e1 R1 r1 h=>?_;obtain⟨d',g',⟨j,rfl,h1,h2,rfl,rfl⟩,q⟩:=h;obtain⟨v,rfl,rv⟩:=r1.one;obtain rfl:=rv.i8;refine⟨j,rfl,λq' hq=>⟨q',0,j,rfl,d8,⟨by omega,by omega,h1,by omega,by omega⟩,λp hp=>?_⟩⟩;rw[show(j-0).toNat=j.toNat by omega];exact(q.ext (e1.trans (q9 hq))).new (R1.grow hq) hp (b7.kU 0 _)
theorem a94(hc:X.calm=true)(ha:PE X a (LE X.K Ξ (aS P ma)))(hb:PE X b (LE X.K Ξ (aS P mb)))(lR:Gl X "list")(nE:X.mg "list"=none)(hg:Gl X "range")(hm:X.mg "range"=none)(hs:starEach [a,b] X.env=[(false,eval a X.env),(false,eval b X.env)])(gG:starEach [b] X.env=[(false,eval b X.env)]) :
  PE X (.Call (.Name "list" p2) [.Call (.Name "range" q) [a,b] [] pos] [] iX) (LE X.K Ξ (aS P (.prim .lH (.cons ma (.cons mb .nil))))) :=
 (Q2 (HX hc) lR nE (by rfl) (T3 (a11 hg hm (v9 hP ha (v9 hP hb (E7 hP) (by rw[gG];rfl)) (by rw[hs,gG])) hs gG) se)).imp λbQ H Q aZ=>by
  obtain⟨Z,g,ρ,s,R,h⟩:=aZ;refine iV hP s R (.refl _ _) h λxs g1 bN H1 vs e1 R1 r1 h=>?_;obtain⟨d',g',⟨i,j,rfl,hb,rfl,rfl⟩,q⟩:=h;obtain⟨v,w,rfl,rv,eW⟩:=r1.two;obtain rfl:=rv.i8;obtain rfl:=eW.i8;exact⟨i,j,rfl,λq' hq=>⟨q',i,j,rfl,d8,hb,λp hp=>(q.ext (e1.trans (q9 hq))).new (R1.grow hq) hp (b7.kU i _)⟩⟩
theorem QJ(hc:X.calm=true)(ha:PE X a (LE X.K Ξ (aS P ma)))(lR:Gl X "sorted")(nE:X.mg "sorted"=none)(hg:Gl X "set")(hm:X.mg "set"=none)(hs:starEach [a] X.env=[(false,eval a X.env)]) :
  PE X (.Call (.Name "sorted" p2) [.Call (.Name "set" q) [a] [] pos] [] iX) (LE X.K Ξ (aS P (.prim .sset (.cons ma .nil)))) :=
 (xq (Y0 hc) lR nE (by rfl) (T3 (Q2 (HS hc) hg hm (by rfl) (v9 hP ha (E7 hP) (by rw[hs];rfl)) ∅ ∅ (by rw[hs];rfl) rfl) se)).imp λbQ H Q aZ=>by
  obtain⟨Z,g,ρ,s,R,h⟩:=aZ;refine iV hP s R (.refl _ _) h λxs g1 bN H1 vs e1 R1 r1 h=>?_;obtain⟨d',g',⟨i,ns,rfl,hl,hz,rfl,rfl⟩,q⟩:=h;obtain⟨v,rfl,rv⟩:=r1.one;obtain⟨a',rfl,ra⟩:=rv.f6;obtain⟨ws,hq,rs⟩:=R1.items hl ra;obtain rfl:=rs.ints;refine⟨_,ns,rfl,hq,hz,λq' lO=>⟨q',ns,rfl,d8,hz,λp hp=>?_⟩⟩;exact(q.ext (e1.trans (q9 lO))).new (R1.grow lO) hp (b7.ofInts _)
theorem QG(hc:X.calm=true)(ha:PE X a (LE X.K Ξ (aS P ma)))(lR:Gl X "len")(nE:X.mg "len"=none)(hg:Gl X "set")(hm:X.mg "set"=none)(hs:starEach [a] X.env=[(false,eval a X.env)]) :
  PE X (.Call (.Name "len" p2) [.Call (.Name "set" q) [a] [] pos] [] iX) (LE X.K Ξ (aS P (.prim .Z1 (.cons ma .nil)))) :=
 (xq aB6 lR nE PySem.boot_len (T3 (Q2 (HS hc) hg hm (by rfl) (v9 hP ha (E7 hP) (by rw[hs];rfl)) ∅ ∅ (by rw[hs];rfl) rfl) se)).imp λbQ H Q aZ=>by
  obtain⟨Z,g,ρ,s,R,h⟩:=aZ;refine iV hP s R (.refl _ _) h λxs g1 bN H1 vs e1 R1 r1 h=>?_;obtain⟨d',g',⟨i,ns,rfl,hl,hz,rfl,rfl⟩,q⟩:=h;obtain⟨v,rfl,rv⟩:=r1.one;obtain⟨a',rfl,ra⟩:=rv.f6;obtain⟨ws,hq,rs⟩:=R1.items hl ra;obtain rfl:=rs.ints;refine⟨_,ns,rfl,hq,by omega,λq' lO=>⟨q',_,rfl,d8,?_⟩⟩;exact(q.ext (e1.trans (q9 lO))).now (R1.grow lO) (.int _)
theorem QI{i:Int}{j:Nat}(lT:PySem.W.kdsCode X.K X.env.code=true):PE X (.Set [.Constant (.int i) j q] 0 pos) (LE X.K Ξ (aS P (.prim (.jn i) .nil))) :=
 (Qp lT).imp λbQ H Q aZ=>by
  obtain⟨Z,g,ρ,s,R,h⟩:=aZ;obtain⟨d',g',⟨_,rfl,rfl⟩,q⟩:=h;exact λp hp=>q (ρ++[p]) _ _ (u2 hp) (R.new hp (o:=.set (λk=>decide (k=i)) 1) (u:=.set (λk=>decide (k=i)) 1) ⟨rfl,rfl⟩) (.ref (R.m7 p))
theorem Of{f:Str}(ha:PE X a (LE X.K Ξ (aS P ma)))(hb:attributeBase a f X.env (eval a X.env)=eval a X.env):PE X (.Attribute a f pos) (LE X.K Ξ (aS P (.prim (.fld f) (.cons ma .nil)))) :=
 (XA ha hb).imp λbQ H Q aZ=>by
  obtain⟨Z,g,ρ,s,R,h⟩:=aZ;refine eM hP s R (.refl _ _) h λx g1 bN H1 v1 e1 R1 r1 h=>?_;obtain⟨d',g',⟨i,c,fs,ex,hi,hf,rfl⟩,q⟩:=h;cases ex;obtain⟨a',rfl,ra⟩:=r1.f6;obtain⟨C,dx,vs,hH,_,hC,rk,na⟩:=R1.ins hi ra;have lk:=rk.look f;rw[hf] at lk;obtain⟨v,hv,rv⟩:=lk.some;exact⟨a',C,dx,vs,v,rfl,hH,hC,na _ (aL hf),hv,q bN H1 v e1 R1 rv⟩
end
section
variable{X:Cx}{pos:Pos}
theorem Oj{i:Nat}{x:Str}(hN:X.N[i]?=some x)(hv:vp X.env.scope x)(hd:(x==("__debug__":Str))=false)(kH:(x==("__classdict__":Str))=false):PE X (.Name x pos) (LE X.K Ξ (aS P (.var i))) :=
 (Kq hN hv hd kH).imp λbQ H Q aZ=>by
  obtain⟨Z,g,ρ,s,R,h⟩:=aZ;obtain⟨d,e,h⟩:=h;obtain⟨v,h1,h2⟩:=s.val _ _ e;exact⟨v,h1,h.now R h2⟩
theorem Z9{e:Expr}{d:D}{v:V}(h:PE X e (tC v))(r:∀ρ H,d0 X.K ρ H d v):PE X e (LE X.K Ξ (aS P (.lit d))) :=
 h.imp λbQ H Q aZ=>by
  obtain⟨Z,g,ρ,s,R,h⟩:=aZ;exact LQ.now h R (r ρ H)
theorem QE:PE X (.Dict [] [] pos) (LE X.K Ξ (aS P (.prim .R7 .nil))) :=
 (Sl (X:=X)).imp λbQ H Q ⟨Z,g,ρ,s,R,h⟩ p hp=>by
  obtain⟨d',g',⟨_,rfl,rfl⟩,q⟩:=h;exact q (ρ++[p]) _ _ (u2 hp) (R.new hp (o:=.bC []) (u:=.dK []) d5.nil) (.ref (R.m7 p))
end
end M
namespace L2
open PySem PySem.Spec PyProof.Rows
section
variable{X:Cx}{m:Str}{pos apos:Pos}{e o:Expr}{es:List Expr}{ta:TE}{t:TA}
def OI(X:Cx)(m:Str)(E:XK)(ta:TE)(t:TA):TE:=λZ H Q=>ta Z H λx H1=>∃a C dx fs f fd ps k sp,x=.ref a/\H1 a=some (.ins C dx fs)/\fs.lookup m=none/\iz X.K C/\Meth X.K C m f /\
 fX X.prog X.w X.K X.mg X.base (gw X.prog X.w) k f fd ps sp/\m9 k X.A/\Binds X.K fd ps []/\t Z H1 λvs H2=>sp (x::(vs++[])) H2 Q E
theorem Sq{pl:Sem Bool}{E:XK}(he:PE X o ta)(hx:Passes (gw X.prog X.w) X E)(ha:PA X (e::es) t)(eP:starEach (e::es) X.env=(false,eval e X.env)::starEach es X.env)(fU:(backTo pos (starEach es X.env)).any (·.1)=false)(ht:eval (.Call (.Attribute o m apos) (e :: es) [] pos) X.env=(do
   let ov <- eval o X.env
   standAt apos.atName
   let (f,first) <- holding [ov] (getMethod ov m pl)
   callWith pos f first (backTo pos (starEach (e :: es) X.env)) (backToKw pos (keywordEach [] X.env)))) :
  PE X (.Call (.Attribute o m apos) (e::es) [] pos) (OI X m E ta t):=by
 intro pins s Z H Q I h;refine vE (pl:=pl) (cq (he pins s Z H _ I h) λu s1 aZ=>?_) ht;obtain⟨x,H1,I1,rx,a,C,dx,fs,f,fd,ps,k,sp,ex,ea,l,c,hm,F,hr,hb,q⟩:=aZ;subst ex;obtain rfl:u=Value.ref a:=rx;refine Hk I1 ea c hm l ?_;refine jj (first:=[.ref a]) (h₀:=X.base) I.ok.mod.lK hm.kp (cq (ha pos pins s1 Z H1 _ I1 q) λus s2 ⟨vs,H2,I2,r,q2⟩=>⟨I2.fS,?_⟩) eP fU;exact wO (us:=.ref a::us) (vs:=.ref a::vs) F hr hb .nil hx I2 (.cons rfl r) q2
def QY(X:Cx)(m:Str)(E:XK)(ta:TE):TE:=λZ H Q=>ta Z H λx H1=>∃a C dx fs f fd ps k sp,x=.ref a/\H1 a=some (.ins C dx fs)/\fs.lookup m=none/\iz X.K C/\Meth X.K C m f /\
 fX X.prog X.w X.K X.mg X.base (gw X.prog X.w) k f fd ps sp/\m9 k X.A/\Binds X.K fd ps []/\sp [x] H1 Q E
theorem a13{pl:Sem Bool}{E:XK}(he:PE X o ta)(hx:Passes (gw X.prog X.w) X E)(ht:eval (.Call (.Attribute o m apos) [] [] pos) X.env=(do
   let ov <- eval o X.env
   standAt apos.atName
   let (f,first) <- holding [ov] (getMethod ov m pl)
   callWith pos f first (backTo pos (starEach [] X.env)) (backToKw pos (keywordEach [] X.env)))) :
  PE X (.Call (.Attribute o m apos) [] [] pos) (QY X m E ta):=by
 intro pins s Z H Q I h;refine vE (pl:=pl) (cq (he pins s Z H _ I h) λu s1 aZ=>?_) ht;obtain⟨x,H1,I1,rx,a,C,dx,fs,f,fd,ps,k,sp,ex,ea,l,c,hm,F,hr,hb,q⟩:=aZ;subst ex;obtain rfl:u=Value.ref a:=rx;refine Hk I1 ea c hm l ?_;exact iR (first:=[.ref a]) I1.fS hm.kp (wO (us:=[.ref a]) (vs:=[.ref a]) (dvs:=[]) F hr hb .nil hx I1 (.cons rfl .nil) q)
end
end L2
namespace M
open PySem L2 PySem.Spec PyProof.Rows
variable{K:PySem.W.Frag}{H H0:Hp}{a fa C:Addr}{x:Str}{p:Pos}{k f j:Nat}{fd:FuncData}{ps:List Str}{fz:List Addr}{xs:List D}{vs:List V}{es:List Expr}{e:Expr}{gc:ME}
inductive oK(K:PySem.W.Frag):List D->List (Str×V)->Prop
 |nil:oK K [] []
 |cons {x:Str} {d:D} {v:V} {ds:List D} {vs:List (Str×V)} (h:∀ρ H,d0 K ρ H d v) (r:oK K ds vs):oK K (.tup [.str x,d]::ds) ((x,v)::vs)
theorem oK.look{ρ:List Addr}{ds vs}(x:Str)(h:oK K ds vs):qe K ρ H (P2 ds x) (vs.lookup x):=by
 induction h with
 |nil=>trivial
 |cons h r ih =>
  rename_i y d v ds vs;unfold P2;rw[cZ];by_cases e:x=y
  ·rw[aN e,show(x==y)=true from by simp[e]];exact h ρ H
  ·rw[aG e,show(x==y)=false from by simpa using e];exact ih
def Fi(X:Cx)(x:Str)(kvs:List D):Prop:=∃A vs,X.mg x=some (.ref A)/\xD X.K X.w.params A vs/\oK X.K kvs vs
section
variable{X:Cx}{Ξ:gJ}{P:eB}(hP:f9 P){a c:Expr}{ma:ME}{pos:Pos}
include hP
theorem QF{kvs:List D}(hg:Gl X x)(hd:(x==("__debug__":Str))=false)(hG:Fi X x kvs)(ha:PE X a (LE X.K Ξ (aS P ma)))(hs:AN a):PE X (.Subscript (.Name x p) a pos) (LE X.K Ξ (aS P (.prim .lX (.cons (.lit (.tup kvs)) (.cons ma .nil))))):=by
 obtain⟨A,vs,hmg,hk,gr⟩:=hG;refine(FN (Vk (kvs:=vs)) (IY (v:=.ref A) hg hmg rfl hd) ha hs).imp λbQ H Q aZ=>?_;obtain⟨Z,g,ρ,s,R,h⟩:=aZ;refine eM hP s R (.refl _ _) h λd g1 bN H1 v1 e1 R1 r1 h=>?_;obtain⟨d',g',⟨LB,z,ex,hz,rfl⟩,q⟩:=h;cases ex;obtain rfl:=r1.CJ;have lk:=gr.look (ρ:=bN) (H:=H1) z;rw[hz] at lk;obtain⟨w,hw,lk⟩:=lk.some;exact⟨A,z,w,rfl,hk,rfl,hw,q bN H1 _ e1 R1 lk⟩
omit hP in
def om(ex:List Str)(K:PySem.W.Frag)(n:Nat)(t:List D->G->KD->KX->Prop):Sp:=λvs H Q E=>vs.length=n/\∃ds g ρ,b7 K ρ H ds vs/\Rl K ρ g H/\t ds g (LQ K ρ H Q) (LX K ρ H (ex,E))
omit hP in
def mT(X:Cx)(P:eB)(ex:List Str)(k f:Nat)(fa:Addr)(fd:FuncData)(ps:List Str):Prop :=
 fX X.prog X.w X.K X.mg X.base (gw X.prog X.w) k fa fd ps (om ex X.K ps.length (P f))/\Binds X.K fd ps []/\∀ds g Q E,P f ds g Q E->ds.length=ps.length
theorem uM{k:Nat}(F:mT X P Ξ.1 k f fa fd ps){ρ:List Addr}{g:G}{Q0:KD}{Q:VK}(e0:Ext fz H0 ρ H)(R:Rl X.K ρ g H)(r:b7 X.K ρ H xs vs)(h:P f xs g Q0 (LX X.K fz H0 Ξ))(k:∀d g',Q0 d g'->LQ X.K ρ H Q d g'):om Ξ.1 X.K ps.length (P f) (vs++[]) H Q Ξ.2:=by
 rw[fj];exact⟨by rw[<- r.length];exact F.2.2 _ _ _ _ h,xs,g,ρ,r,R,hP _ _ _ _ _ _ _ k (λ_ _ z=>LX.ext e0 z) h⟩
theorem QC(hx:Passes (gw X.prog X.w) X Ξ.2)(F:mT X P Ξ.1 k f fa fd ps)(hr:m9 k X.A)(hg:Gl X x)(hm:X.mg x=some (.ref fa))(hk:PySem.W.keepIn X.K (.ref fa)=true)(ha:PA X (e::es) (LA X.K Ξ (fc P gc)))(hd:(x==("__debug__":Str))=false)(eP:starEach (e::es) X.env=(false,eval e X.env)::starEach es X.env)(fU:(backTo pos (starEach es X.env)).any (·.1)=false):PE X (.Call (.Name x p) (e::es) [] pos) (LE X.K Ξ (aS P (.call f gc))) :=
 (Qk F.1 hr hg hm hk F.2.1 .nil hx ha hd eP fU).imp λbQ H Q aZ=>by
  obtain⟨Z,g,ρ,s,R,h⟩:=aZ;exact iV hP s R (.refl _ _) h λxs g1 bN H1 vs e1 R1 r1 h=>uM hP F e1 R1 r1 h λd g' h=>h.ext e1
theorem a98(hx:Passes (gw X.prog X.w) X Ξ.2)(F:mT X P Ξ.1 k f fa fd ps)(hr:m9 k X.A)(hg:Gl X x)(hm:X.mg x=some (.ref fa))(hk:PySem.W.keepIn X.K (.ref fa)=true)(hd:(x==("__debug__":Str))=false):PE X (.Call (.Name x p) [] [] pos) (LE X.K Ξ (aS P (.call f .nil))) :=
 (Sj F.1 hr hg hm hk F.2.1 .nil hx hd).imp λbQ H Q aZ=>by
  obtain⟨Z,g,ρ,s,R,h⟩:=aZ;exact uM hP F (.refl _ _) R .nil h λd g' h=>h
theorem IQ{c:Str}(F:mT X P Ξ.1 k f fa fd ps)(hC:l5 X.K c C)(hc:iz X.K C){ρ:List Addr}{g1:G}{Q:VK}(e0:Ext fz H0 ρ H)(R:Rl X.K ρ g1 H)(r:b7 X.K ρ H xs vs)(h:P f (.ref g1.length::xs) (g1++[.ins c []]) (λd g2=>d=.bc/\LQ X.K fz H0 Q (.ref g1.length) g2) (LX X.K fz H0 Ξ)):∀x dx,H x=none->H dx=none->dx≠x->om Ξ.1 X.K ps.length (P f) (.ref x::(vs++[])) (upd (upd H dx (.own x)) x (.ins C dx [])) (λv H2=>v=.bc/\Q (.ref x) H2) Ξ.2:=by
 intro x dx hx Ek fK;have DT:upd H dx (.own x) x=none:=by rw[b9 (bf fK)];exact hx
 have R2:=R.grow (o:=.own x) Ek;have e2:Ext ρ H ρ (upd H dx (.own x)):=q9 Ek;have R3:=R2.new (o:=.ins c []) (u:=.ins C dx []) DT ⟨hC,hc,.nil,λx hx=>absurd hx (by simp)⟩;have e3:Ext ρ (upd H dx (.own x)) (ρ++[x]) (upd (upd H dx (.own x)) x (.ins C dx [])):=u2 DT;have:=uM hP F (e0.trans (e2.trans e3)) R3 (.cons (.ref (R.m7 x)) (r.ext (e2.trans e3))) h (Q:=λv H2=>v=.bc/\Q (.ref x) H2) λd g' q bH H' v e' R' r'=>by
  obtain⟨rfl,q⟩:=q;exact⟨r'.CC,q bH H' _ (e0.trans (e2.trans (e3.trans e'))) R' (.ref (e'.get (R.m7 x)))⟩
 exact this
theorem QH(hx:Passes (gw X.prog X.w) X Ξ.2)(F:mT X P Ξ.1 k f fa fd ps)(M:Mk X.K C fa)(hC:l5 X.K x C)(hc:iz X.K C)(hr:m9 (k+1) X.A)(hg:Gl X x)(hm:X.mg x=some (.ref C))(ha:PA X (e::es) (LA X.K Ξ (fc P gc)))(hd:(x==("__debug__":Str))=false)(eP:starEach (e::es) X.env=(false,eval e X.env)::starEach es X.env)(fU:(backTo pos (starEach es X.env)).any (·.1)=false):PE X (.Call (.Name x p) (e::es) [] pos) (LE X.K Ξ (aS P (.make x f gc))) :=
 (Qn M F.1 hr hg hm F.2.1 .nil hx ha hd eP fU).imp λbQ H Q aZ=>by
  obtain⟨Z,g,ρ,s,R,h⟩:=aZ;exact iV hP s R (.refl _ _) h λxs g1 bN H1 vs e1 R1 r1 h=>IQ hP F hC hc e1 R1 r1 h
theorem a93(hx:Passes (gw X.prog X.w) X Ξ.2)(F:mT X P Ξ.1 k f fa fd ps)(M:Mk X.K C fa)(hC:l5 X.K x C)(hc:iz X.K C)(hr:m9 (k+1) X.A)(hg:Gl X x)(hm:X.mg x=some (.ref C))(hd:(x==("__debug__":Str))=false):PE X (.Call (.Name x p) [] [] pos) (LE X.K Ξ (aS P (.make x f .nil))) :=
 (So M F.1 hr hg hm F.2.1 .nil hx hd).imp λbQ H Q aZ=>by
  obtain⟨Z,g,ρ,s,R,h⟩:=aZ;exact IQ hP F hC hc (.refl _ _) R .nil h
omit hP in
def AM(X:Cx)(P:eB)(ex:List Str)(m:Str)(cs:List (Str×Nat)):Prop:=∀c f C,cs.lookup c=some f->l5 X.K c C->∃k fa fd ps,Meth X.K C m fa/\mT X P ex k f fa fd ps/\m9 k X.A
theorem a91{m:Str}{cs:List (Str×Nat)}{o:Expr}{mo:ME}{apos:Pos}{pl:Sem Bool}(hx:Passes (gw X.prog X.w) X Ξ.2)(hM:AM X P Ξ.1 m cs)(ho:PE X o (LE X.K Ξ (aS P mo)))(ha:PA X (e::es) (LA X.K Ξ (fc P gc)))(eP:starEach (e::es) X.env=(false,eval e X.env)::starEach es X.env)(fU:(backTo pos (starEach es X.env)).any (·.1)=false)(ht:eval (.Call (.Attribute o m apos) (e :: es) [] pos) X.env=(do
   let ov <- eval o X.env
   standAt apos.atName
   let (f,first) <- holding [ov] (getMethod ov m pl)
   callWith pos f first (backTo pos (starEach (e :: es) X.env)) (backToKw pos (keywordEach [] X.env)))):PE X (.Call (.Attribute o m apos) (e :: es) [] pos) (LE X.K Ξ (aS P (.bo m cs mo gc))) :=
 (Sq ho hx ha eP fU ht).imp λbQ H Q aZ=>by
  obtain⟨Z,g,ρ,s,R,h⟩:=aZ;refine eM hP s R (.refl _ _) h λx g1 bN H1 v1 e1 R1 r1 h=>?_;obtain⟨i,c,fs,f,rfl,hi,hf,ou,h⟩:=h;obtain⟨a',rfl,ra⟩:=r1.f6;obtain⟨C,dx,vs,hH,hC,iF,rk,na⟩:=R1.ins hi ra;obtain⟨k,fa,fd,ps,M,F,hr⟩:=hM c f C ou hC;have lk:=rk.look m;rw[hf] at lk;have hl:vs.lookup m=none:=by cases e:vs.lookup m with|none=>rfl|some w=>rw[e] at lk;exact lk.elim
  refine⟨a',C,dx,vs,fa,fd,ps,k,_,rfl,hH,hl,iF,M,F.1,hr,F.2.1,?_⟩;exact iV hP (s.ext e1) R1 e1 h λxs g2 dZ H2 ws e2 R2 r2 h=>uM hP F (e1.trans e2) R2 (.cons (.ref (e2.get ra)) r2) h λd g' h=>h.ext (e1.trans e2)
theorem Yr{m:Str}{cs:List (Str×Nat)}{o:Expr}{mo:ME}{apos:Pos}{pl:Sem Bool}(hx:Passes (gw X.prog X.w) X Ξ.2)(hM:AM X P Ξ.1 m cs)(ho:PE X o (LE X.K Ξ (aS P mo)))(ht:eval (.Call (.Attribute o m apos) [] [] pos) X.env=(do
   let ov <- eval o X.env
   standAt apos.atName
   let (f,first) <- holding [ov] (getMethod ov m pl)
   callWith pos f first (backTo pos (starEach [] X.env)) (backToKw pos (keywordEach [] X.env)))):PE X (.Call (.Attribute o m apos) [] [] pos) (LE X.K Ξ (aS P (.bo m cs mo .nil))) :=
 (a13 ho hx ht).imp λbQ H Q aZ=>by
  obtain⟨Z,g,ρ,s,R,h⟩:=aZ;refine eM hP s R (.refl _ _) h λx g1 bN H1 v1 e1 R1 r1 h=>?_;obtain⟨i,c,fs,f,rfl,hi,hf,ou,h⟩:=h;obtain⟨a',rfl,ra⟩:=r1.f6;obtain⟨C,dx,vs,hH,hC,iF,rk,na⟩:=R1.ins hi ra;obtain⟨k,fa,fd,ps,M,F,hr⟩:=hM c f C ou hC;have lk:=rk.look m;rw[hf] at lk;have hl:vs.lookup m=none:=by cases e:vs.lookup m with|none=>rfl|some w=>rw[e] at lk;exact lk.elim
  exact⟨a',C,dx,vs,fa,fd,ps,k,_,rfl,hH,hl,iF,M,F.1,hr,F.2.1,uM hP F e1 R1 (.cons (.ref ra) .nil) h λd g' h=>h.ext e1⟩
end
inductive jy(K:PySem.W.Frag)(ρ:List Addr)(H:Hp):List D->List (V×V)->Prop
 |nil:jy K ρ H [] []
 |cons {k d:D} {x y:V} {ds:List D} {ps:List (V×V)} (h1:d0 K ρ H k x) (h2:d0 K ρ H d y) (r:jy K ρ H ds ps):jy K ρ H (k::d::ds) ((x,y)::ps)
theorem WL{K ρ H}{ps:List (V×V)}(r:jy K ρ H xs ps):∀{acc kvs:List (Key×D)} {accV:List (Key×V)},rh xs acc=some kvs->d5 K ρ H acc accV->∃more:List (Key×V),ps=more.map (λkv=>(kV kv.1,kv.2))/\2*more.length=xs.length/\d5 K ρ H kvs (U0 accV more):=by
 induction r with
 |nil =>
  intro acc kvs accV h ra;cases h;exact⟨[],rfl,rfl,ra⟩
 |cons h1 h2 r ih =>
  rename_i k d x y ds ps;intro acc kvs accV h ra;simp only[rh] at h;cases hk:U6 k with
  |none=>simp_all
  |some c =>
   rw[hk] at h;obtain⟨more,e1,e2,r2⟩:=ih (show rh ds (putD acc c d)=some kvs from h) (ra.put h2);have ex:=O0 hk h1;refine⟨(c,y)::more,by simp_all,by grind,r2⟩
section
variable{X:Cx}{Ξ:gJ}{P:eB}(hP:f9 P){pos:Pos}
inductive lx(X:Cx)(Ξ:gJ)(P:eB):List (Option Expr)->List Expr->ME->List (TE×TE)->Prop
 |nil:lx X Ξ P [] [] .nil []
 |cons {k v:Expr} {ks:List (Option Expr)} {vs:List Expr} {mk mv ms:ME} {gL:List (TE×TE)} (hk:PE X k (LE X.K Ξ (aS P mk))) (hv:PE X v (LE X.K Ξ (aS P mv))) (r:lx X Ξ P ks vs ms gL) :
   lx X Ξ P (some k::ks) (v::vs) (.cons mk (.cons mv ms)) ((LE X.K Ξ (aS P mk),LE X.K Ξ (aS P mv))::gL)
theorem lx.Lo{ks vs ms gL}(h:lx X Ξ P ks vs ms gL):vw X pos ks vs gL:=by
 induction h with
 |nil=>exact Qs
 |cons hk hv r ih=>exact Sx hk hv ih
theorem lx.len{ks vs ms gL}(h:lx X Ξ P ks vs ms gL):ks.all (·.isSome)=true/\ks.length=vs.length:=by
 induction h with
 |nil=>exact⟨rfl,rfl⟩
 |cons hk hv r ih=>exact⟨by simpa using ih.1,by simp[ih.2]⟩
include hP
theorem lx.pairs{ks vs ms gL}(hd:lx X Ξ P ks vs ms gL):∀{bQ:L2.St} {Z:S} {g:G} {ρ fz:List Addr} {H H0:Hp} {Qd:List D->G->Prop} {Q:List (V×V)->Hp->Prop},k6 X.K ρ H Z bQ->Rl X.K ρ g H->Ext fz H0 ρ H->fc P ms Z g Qd (LX X.K fz H0 Ξ) ->
  (∀ds g' bH H' ps,Ext ρ H bH H'->Rl X.K bH g' H'->jy X.K bH H' ds ps->Qd ds g'->Q ps H')->wR gL bQ H Q:=by
 induction hd with
 |nil =>
  intro bQ Z g ρ fz H H0 Qd Q s R e0 h k;exact k [] g ρ H [] (.refl _ _) R .nil h
 |cons hk hv r ih =>
  intro bQ Z g ρ fz H H0 Qd Q s R e0 h k;refine eM hP s R e0 h λx g1 bN H1 v1 e1 R1 r1 h=>eM hP (s.ext e1) R1 (e0.trans e1) h λy g2 dZ H2 v2 e2 R2 r2 h=>?_;refine ih (s.ext (e1.trans e2)) R2 (e0.trans (e1.trans e2)) h λds g' bH H' ps e' R' rp hq=>?_;exact k _ g' bH H' _ (e1.trans (e2.trans e')) R' (.cons (r1.ext (e2.trans e')) (r2.ext e') rp) hq
theorem Oe{ks:List (Option Expr)}{vs:List Expr}{ms:ME}{gL:List (TE×TE)}(hd:lx X Ξ P ks vs ms gL)(h0:ks≠[])(oA:ks.length<=15):PE X (.Dict ks vs pos) (LE X.K Ξ (aS P (.mR ms))) :=
 (Qm hd.Lo hd.len.1 hd.len.2 h0 oA).imp λbQ H Q ⟨Z,g,ρ,s,R,h⟩ p hp=>by
  have e1:Ext ρ H (ρ++[p]) (upd H p (.dK [])):=u2 hp;refine lx.pairs hP hd (s.ext e1) (R.new hp (o:=.bC []) (u:=.dK []) d5.nil) e1 h λds g2 dZ H2 ps e2 R2 rp hq=>?_;obtain⟨kvs,hk,hz,hg,q⟩:=hq;have kE:dZ[g.length]?=some p:=e2.get (R.m7 p);obtain⟨vs',hv,rv⟩:=R2.bC hg kE;cases rv;obtain⟨more,em,hl,rk⟩:=WL rp hk (accV:=[]) .nil;refine⟨hv,more,em,by omega,?_⟩;obtain⟨R3,e3⟩:=R2.put (o':=.bC kvs) (u:=.dK (U0 [] more)) hg rfl kE rk;exact q dZ _ _ (e1.trans (e2.trans e3)) R3 (.ref kE)
end
theorem Vp{l:List D}(ht:TupAt K H0 a vs)(rs:b7 K fz H0 l vs):Z5 K fz H0 (.fix l) (De K a):=by
 intro ρ g H e R i;have tE:=ht.ext e;have DD:=rs.ext e;refine⟨λh=>⟨vs,tE.sq,?_⟩,λd h=>?_⟩
 ·have:=cR.mp (aD h);rw[<- DD.length];exact this
 ·obtain⟨v,hv,rv⟩:=DD.get (aD h);refine⟨⟨vs,v,tE.sq,hv⟩,λw H' y=>?_⟩;obtain⟨rfl,y⟩:=y;have:=y vs tE.sq;rw[hv] at this;cases this;exact⟨.refl _ _,R,rv⟩
theorem Vn(ha:fz[j]?=some a):Z5 K fz H0 (.lst j) (Df K a):=by
 intro ρ g H e R i;have kI:=e.get ha;refine⟨λh=>?_,λd h=>?_⟩
 ·simp only[IK.at] at h;cases el:c9 g j with
  |none=>simp_all
  |some l =>
   rw[el] at h;obtain⟨vs,hq,rs⟩:=R.items el kI;refine⟨vs,hq,?_⟩;have:=cR.mp (aD h);rw[<- rs.length];exact this
 ·simp only[IK.at] at h;cases el:c9 g j with
  |none=>simp_all
  |some l =>
   rw[el] at h;obtain⟨vs,hq,rs⟩:=R.items el kI;obtain⟨v,hv,rv⟩:=rs.get (aD h);refine⟨⟨vs,v,hq,hv⟩,λw H' y=>?_⟩;obtain⟨rfl,y⟩:=y;have:=y vs hq;rw[hv] at this;cases this;exact⟨.refl _ _,R,rv⟩
theorem FD{lo:Int}{n:Nat}:Z5 K fz H0 (.fix (z9 lo n)) (vB lo n):=by
 unfold z9;intro ρ g H e R i;refine⟨λh=>?_,λd h=>?_⟩
 ·have:=cR.mp (aD h);show n<=i;simpa using this
 ·have h:=aD h;have hi:i<n:=by
   have:=(ao.mp h).1
   simp_all
  rw[ah,dN hi] at h;cases h;refine⟨hi,λw H' y=>?_⟩;obtain⟨rfl,rfl⟩:=y;exact⟨.refl _ _,R,.int _⟩
theorem Vo{n:Nat}(ha:fz[j]?=some a):Z5 K fz H0 (.qy j n) (Dd K a n):=by
 intro ρ g H e R i;have kI:=e.get ha;refine⟨λh=>?_,λd h=>?_⟩
 ·simp only[IK.at] at h;cases el:c9 g j with
  |none=>simp_all
  |some l =>
   rw[el] at h;dsimp only at h;by_cases hl:l.length=n
   ·rw[aN hl] at h;have h:=aD h;by_cases hi:i<n
    ·rw[aN hi] at h;have:=cR.mp h;omega
    ·exact Nat.le_of_not_lt hi
   simp_all
 ·simp only[IK.at] at h;cases el:c9 g j with
  |none=>simp_all
  |some l =>
   rw[el] at h;dsimp only at h;by_cases hl:l.length=n
   ·rw[aN hl] at h;have h:=aD h;by_cases hi:i<n
    ·rw[aN hi] at h;obtain⟨vs,hq,rs⟩:=R.items el kI;obtain⟨v,hv,rv⟩:=rs.get h;refine⟨⟨vs,v,hq,by rw[<- rs.length];exact hl,hi,hv⟩,λw H' y=>?_⟩;obtain⟨rfl,y⟩:=y;have:=y vs hq;rw[hv] at this;cases this;exact⟨.refl _ _,R,rv⟩
    ·rw[aG hi] at h;cases h
   simp_all
theorem Vm(ha:fz[j]?=some a):Z5 K fz H0 (.nM j) (Dg K a):=by
 intro ρ g H e R i;have kI:=e.get ha;refine⟨λh=>?_,λd h=>?_⟩
 ·simp only[IK.at] at h;cases el:c9 g j with
  |none=>rw[el] at h;cases h
  |some l =>
   rw[el] at h;obtain⟨vs,hq,rs⟩:=R.items el kI;refine⟨vs,hq,?_⟩;have h:=aD h;rw[Option.map_eq_none_iff] at h;have:=cR.mp h;rw[<- rs.length];exact this
 ·simp only[IK.at] at h;cases el:c9 g j with
  |none=>simp_all
  |some l =>
   rw[el] at h;obtain⟨vs,hq,rs⟩:=R.items el kI;have h:=aD h;rw[aa] at h;obtain⟨d',hd,rfl⟩:=h;obtain⟨v,hv,rv⟩:=rs.get hd;refine⟨⟨vs,v,hq,hv⟩,λw H' y=>?_⟩;obtain⟨p,x,hp,rfl,y,rfl⟩:=y;have:=y vs hq;rw[hv] at this;cases this;exact⟨q9 hp,R.grow hp,.tup (.inl d8) (.cons (.int _) (.cons (rv.ext (q9 hp)) .nil))⟩
end M
namespace L2
open PySem PySem.Spec PyProof.Rows
theorem XM{X:Cx}{tg l:Expr}{tl:TE}(hl:PE X l tl):PI X tg l (λZ H R=>tl Z H λx H1=>(∃a,x=.ref a/\(∃xs,eQ X.K H1 a xs)/\R (Df X.K a) H1)\/(∃a,x=.ref a/\(∃xs,gY X.K H1 a xs)/\R (De X.K a) H1)):=by
 intro pins s Z H R I h;refine cq (hl pins s Z H _ I h) λv s1 aZ=>?_;obtain⟨x,H1,I1,r1,q1⟩:=aZ;rcases q1 with⟨a,e,⟨xs,hq⟩,q⟩|⟨a,e,⟨xs,hq⟩,q⟩
 ·subst e;cases r1;obtain⟨aX,rv,p,hz⟩:=I1.list hq;refine hJ p.isList ?_;refine⟨s1.heap.objs.size,[s1.heap.objs.size],_,_,H1,rfl,I1.kept (t':=s1.toks) λb o e=>ai _ e,Yy a _,⟨_,ax _ rfl,rfl,rfl⟩,λb hb=>?_,q⟩;have e:b=s1.heap.objs.size:=by simpa using hb
  subst e;exact I1.Z2 (au _) (I1.bz.fresh (au _))
 ·subst e;cases r1;obtain⟨aX,rv,p,hz⟩:=I1.tuple hq;refine wpAny_pyIter_tuple (show s1.heap.IsTuple a aX.toArray from p) ?_;refine⟨s1.heap.objs.size,[s1.heap.objs.size],_,_,H1,rfl,I1.kept (t':=s1.toks) λb o e=>ai _ e,Zk a _,⟨_,ax _ rfl,rfl,rfl⟩,λb hb=>?_,q⟩;have e:b=s1.heap.objs.size:=by simpa using hb
  subst e;exact I1.Z2 (au _) (I1.bz.fresh (au _))
end L2
namespace M
open PySem L2 PySem.Spec PyProof.Rows
variable{X:Cx}{tg o:Expr}{pos p tp:Pos}{i:Nat}{x f:Str}{t:MT}{mo mi:ME}{cs:List Str}
section
variable{Ξ:gJ}{P:eB}(hP:f9 P){a b:Expr}{ma mb:ME}
include hP
theorem Oq(ha:PE X a (LE X.K Ξ (aS P ma))):PI X tg a (LI X.K Ξ (gb P (.eN ma))) :=
 (XM ha).imp λbQ H R aZ=>by
  obtain⟨Z,g,ρ,s,Rr,h⟩:=aZ;refine eM hP s Rr (.refl _ _) h λx g1 bN H1 v1 e1 R1 r1 h=>?_;rcases h with⟨l,rfl,h⟩|⟨i,l,rfl,hl,h⟩
  ·obtain⟨a',vs,rfl,ht,rs⟩:=r1.J7;exact .inr ⟨_,rfl,⟨_,ht.sq⟩,h bN H1 _ e1 R1 (Vp ht rs)⟩
  ·obtain⟨a',rfl,kI⟩:=r1.f6;obtain⟨vs,hq,rs⟩:=R1.items hl kI;exact .inl ⟨_,rfl,⟨_,hq⟩,h bN H1 _ e1 R1 (Vn kI)⟩
theorem QN{elts:List Expr}{x1:Nat}(ha:PE X a (LE X.K Ξ (aS P ma)))(hg:Gl X "enumerate")(hm:X.mg "enumerate"=none)(hs:starEach [a] X.env=[(false,eval a X.env)]):PI X (.Tuple elts x1 tp) (.Call (.Name "enumerate" p) [a] [] pos) (LI X.K Ξ (gb P (.jQ ma))) :=
 (Ja hg hm (v9 hP ha (E7 hP) (by rw[hs];rfl)) hs).imp λbQ H R aZ=>by
  obtain⟨Z,g,ρ,s,Rr,h⟩:=aZ;refine iV hP (m:=.cons ma .nil) s Rr (.refl _ _) (Q0:=λxs g1=>∃a l,xs=[.ref a]/\c9 g1 a=some l/\∀bH H' J,Ext ρ H bH H'->Rl X.K bH g1 H'->Z5 X.K bH H' (.nM a) J->R J H') ?_ λxs g1 bN H1 vs e1 R1 r1 h=>?_
  ·exact b8 hP ma _ _ _ _ _ _ (λx g1 ⟨i,l,e,hl,h⟩=>⟨i,l,by rw[e],hl,h⟩) (λ_ _ z=>z) h
  ·obtain⟨j,l,rfl,hl,h⟩:=h;obtain⟨v,rfl,rv⟩:=r1.one;obtain⟨a',rfl,ra⟩:=rv.f6;obtain⟨vs,hq,rs⟩:=R1.items hl ra;exact⟨_,rfl,⟨_,hq⟩,h bN H1 _ e1 R1 (Vm ra)⟩
theorem Oo(ha:PE X a (LE X.K Ξ (aS P ma)))(hg:Gl X "reversed")(hm:X.mg "reversed"=none)(hs:starEach [a] X.env=[(false,eval a X.env)]):PI X tg (.Call (.Name "reversed" p) [a] [] pos) (LI X.K Ξ (gb P (.mB ma))) :=
 (XJ hg hm (v9 hP ha (E7 hP) (by rw[hs];rfl)) hs).imp λbQ H R aZ=>by
  obtain⟨Z,g,ρ,s,Rr,h⟩:=aZ;refine iV hP (m:=.cons ma .nil) s Rr (.refl _ _) (Q0:=λxs g1=>∃a l,xs=[.ref a]/\c9 g1 a=some l/\∀bH H' J,Ext ρ H bH H'->Rl X.K bH g1 H'->Z5 X.K bH H' (.qy a l.length) J->R J H') ?_ λxs g1 bN H1 vs e1 R1 r1 h=>?_
  ·exact b8 hP ma _ _ _ _ _ _ (λx g1 ⟨i,l,e,hl,h⟩=>⟨i,l,by rw[e],hl,h⟩) (λ_ _ z=>z) h
  ·obtain⟨j,l,rfl,hl,h⟩:=h;obtain⟨v,rfl,rv⟩:=r1.one;obtain⟨a',rfl,ra⟩:=rv.f6;obtain⟨vs,hq,rs⟩:=R1.items hl ra;exact⟨_,vs,rfl,hq,h bN H1 _ e1 R1 (by rw[rs.length];exact Vo ra)⟩
theorem QO(ha:PE X a (LE X.K Ξ (aS P ma)))(hg:Gl X "range")(hm:X.mg "range"=none)(hs:starEach [a] X.env=[(false,eval a X.env)]):PI X tg (.Call (.Name "range" p) [a] [] pos) (LI X.K Ξ (gb P (.fk ma))) :=
 (a08 hg hm (v9 hP ha (E7 hP) (by rw[hs];rfl)) hs).imp λbQ H R aZ=>by
  obtain⟨Z,g,ρ,s,Rr,h⟩:=aZ;refine iV hP (m:=.cons ma .nil) s Rr (.refl _ _) (Q0:=λxs g1=>∃j:Int,xs=[.int j]/\-(2 ^ 62)<=j/\j<2 ^ 62/\∀bH H' J,Ext ρ H bH H'->Rl X.K bH g1 H'->Z5 X.K bH H' (.fix (z9 0 j.toNat)) J->R J H') ?_ λxs g1 bN H1 vs e1 R1 r1 h=>?_
  ·exact b8 hP ma _ _ _ _ _ _ (λx g1 ⟨j,e,h1,h2,h⟩=>⟨j,by rw[e],h1,h2,h⟩) (λ_ _ z=>z) h
  ·obtain⟨j,rfl,h1,h2,h⟩:=h;obtain⟨v,rfl,rv⟩:=r1.one;obtain rfl:=rv.i8;exact⟨_,rfl,h1,h2,h bN H1 _ e1 R1 FD⟩
theorem QP(ha:PE X a (LE X.K Ξ (aS P ma)))(hb:PE X b (LE X.K Ξ (aS P mb)))(hg:Gl X "range")(hm:X.mg "range"=none)(hs:starEach [a,b] X.env=[(false,eval a X.env),(false,eval b X.env)])(gG:starEach [b] X.env=[(false,eval b X.env)]) :
  PI X tg (.Call (.Name "range" p) [a,b] [] pos) (LI X.K Ξ (gb P (.ja ma mb))) :=
 (a07 hg hm (v9 hP ha (v9 hP hb (E7 hP) (by rw[gG];rfl)) (by rw[hs,gG])) hs gG).imp λbQ H R aZ=>by
  obtain⟨Z,g,ρ,s,Rr,h⟩:=aZ;refine iV hP (m:=.cons ma (.cons mb .nil)) s Rr (.refl _ _) (Q0:=λxs g1=>∃i j:Int,xs=[.int i,.int j]/\(-(2 ^ 62)<=i/\i<2 ^ 62/\-(2 ^ 62)<=j/\j<2 ^ 62)/\∀bH H' J,Ext ρ H bH H'->Rl X.K bH g1 H'->Z5 X.K bH H' (.fix (z9 i (j-i).toNat)) J->R J H') ?_ λxs g1 bN H1 vs e1 R1 r1 h=>?_
  ·exact b8 hP ma _ _ _ _ _ _ (λx g1 h=>b8 hP mb _ _ _ _ _ _ (λy g2 ⟨i,j,e,e',h1,h⟩=>⟨i,j,by rw[e,e'],h1,h⟩) (λ_ _ z=>z) h) (λ_ _ z=>z) h
  ·obtain⟨i,j,rfl,h1,h⟩:=h;obtain⟨v,w,rfl,rv,eW⟩:=r1.two;obtain rfl:=rv.i8;obtain rfl:=eW.i8;exact⟨_,_,rfl,h1,h bN H1 _ e1 R1 FD⟩
end
theorem Om(hN:X.Nd)(hi:X.N[i]?=some x)(hx:Loc X.env.scope x)(hf:X.fn x=true\/X.env.scope.names.lookup x=some .local):PG X (.Name x pos) (LG X.K (.one i)) :=
 (IZ hN hi hx hf).imp λv bQ H Q hq=>by
  obtain⟨d,Z,g,ρ,s,R,r,h⟩:=hq;exact h _ (s.set i r)
inductive fh(X:Cx):List Expr->List Nat->Prop
 |nil:fh X [] []
 |cons {x:Str} {p:Pos} {i:Nat} {es:List Expr} {is:List Nat} (hi:X.N[i]?=some x) (hx:Loc X.env.scope x) (hf:X.fn x=true\/X.env.scope.names.lookup x=some .local) (r:fh X es is):fh X (.Name x p::es) (i::is)
def uT:List Nat->oR
 |[]=>Gm
 |i::is=>Fz (X9 i) (uT is)
theorem BA(hN:X.Nd){es:List Expr}{is:List Nat}(h:fh X es is):vy X es (uT is):=by
 induction h with
 |nil=>exact Qq
 |cons hi hx hf r ih=>exact Ss (IZ hN hi hx hf) ih rfl
theorem E6:∀{es:List Expr} {is:List Nat},fh X es is->(assignEach es X.env).length=is.length/\(assignEach es X.env).findIdx? (·.1)=none
 |_,_,.nil=>⟨rfl,rfl⟩
 |_,_,.cons (x:=x) (p:=p) (es:=es) hi hx hf r=>by
  obtain⟨h1,h2⟩:=E6 r;have e:assignEach (.Name x p::es) X.env=(false,assign (.Name x p) X.env)::assignEach es X.env:=rfl;rw[e];refine⟨by simp[h1],?_⟩;rw[List.findIdx?_cons,h2]
  rfl
theorem GI{K:PySem.W.Frag}{ρ:List Addr}{H:Hp}{k:S->Prop}{Q:L2.St->Hp->Prop}:∀{is:List Nat} {l:List D} {vs:List V} {Z bT:S} {bQ:L2.St},P9 is l Z=some bT->b7 K ρ H l vs->k6 K ρ H Z bQ->(∀cG,k6 K ρ H bT cG->Q cG H)->uT is vs bQ H Q
 |[],_,_,_,_,_,h,.nil,s,q=>by
  cases h;exact⟨rfl,q _ s⟩
 |[],_,_,_,_,_,h,.cons _ _,s,q=>by cases h
 |i::is,_,_,_,_,_,h,.nil,s,q=>by cases h
 |i::is,_,_,_,_,_,h,.cons r rr,s,q=>by
  exact⟨_,_,rfl,GI (k:=k) h rr (s.set i r) q⟩
theorem Hv:∀{is:List Nat} {l:List D} {Z bT:S},P9 is l Z=some bT->l.length=is.length
 |[],[],_,_,_=>rfl
 |[],_::_,_,_,h=>by simp only[P9] at h;cases h
 |_::_,[],_,_,h=>by simp only[P9] at h;cases h
 |_::is,_::l,_,_,h=>by simp only[P9] at h;simp[Hv h]
theorem Jm{es:List Expr}{is:List Nat}{k:Nat}(hc:X.calm=true)(hN:X.Nd)(hs:fh X es is):PG X (.Tuple es k pos) (LG X.K (.many is)) :=
 (CG hc (BA hN hs) (E6 hs).1 (E6 hs).2).imp λv bQ H Q aZ=>by
  obtain⟨d,Z,g,ρ,s,R,r,h⟩:=aZ;obtain⟨l,bT,rfl,e,h⟩:=h;obtain⟨a',vs,rfl,ht,rs⟩:=r.J7;exact⟨_,_,rfl,ht.sq,by rw[<- rs.length];exact Hv e,GI (k:=λ_=>True) e rs s h⟩
theorem LN.ext{K ρ H N bN H1}(e:Ext ρ H bN H1):(LN K ρ H N).le (LN K bN H1 N) :=
 ⟨λZ g h bH H' cG e' R s=>h bH H' cG (e.trans e') R s,λd g h=>h.ext e,λZ g h bH H' cG e' R s=>h bH H' cG (e.trans e') R s,λZ g h bH H' cG e' R s=>h bH H' cG (e.trans e') R s⟩
section
variable{Ξ:gJ}{P:eB}(hP:f9 P){a b c:Expr}{ma mb mc:ME}{st:Stmt}{rest:List Stmt}{yz lF:MS}
include hP
theorem Ii:iy X [] (LS X.K Ξ (wpS P .pass)) :=
 (Qw (X:=X)).imp λN bQ H ⟨Z,g,ρ,s,R,h⟩=>h ρ H bQ (.refl _ _) R s
theorem Jn(h1:PS X st (LS X.K Ξ (wpS P yz)))(h2:iy X rest (LS X.K Ξ (wpS P lF))):iy X (st::rest) (LS X.K Ξ (wpS P (.seq yz lF))) :=
 (SA h1 h2).imp λN bQ H ⟨Z,g,ρ,s,R,h⟩ =>
  qv hP s R (.refl _ _) (show wpS P yz { LN X.K ρ H N with nx:=λhZ g1=>wpS P lF (LN X.K ρ H N) hZ g1 (LX X.K ρ H Ξ) } Z g (LX X.K ρ H Ξ) from h) ⟨λhZ g1 h bN H1 KJ e1 R1 s1=>qv hP s1 R1 e1 h (LN.ext e1),λ_ _ z=>z,λ_ _ z=>z,λ_ _ z=>z⟩
theorem QW(ha:PE X a (LE X.K Ξ (aS P ma)))(hs:swapsWith a none pos.line X.env=pure false):PS X (.Expr a pos) (LS X.K Ξ (wpS P (.expr ma))) :=
 (Qt ha hs).imp λN bQ H ⟨Z,g,ρ,s,R,h⟩=>eM hP s R (.refl _ _) h λx g1 bN H1 v1 e1 R1 r1 h=>h bN H1 bQ e1 R1 (s.ext e1)
theorem Il(h0:PS X (.Assign [.Name x p] a pos) (rE (LE X.K Ξ (aS P ma)) (X9 i))):PS X (.Assign [.Name x p] a pos) (LS X.K Ξ (wpS P (.set i ma))) :=
 h0.imp λN bQ H ⟨Z,g,ρ,s,R,h⟩=>eM hP s R (.refl _ _) h λx g1 bN H1 v1 e1 R1 r1 h=>h bN H1 _ e1 R1 ((s.ext e1).set i r1)
theorem OE(h0:PS X (.Assign [tg] a pos) (rE (LE X.K Ξ (aS P ma)) (LG X.K t))):PS X (.Assign [tg] a pos) (LS X.K Ξ (wpS P (.mr t ma))) :=
 h0.imp λN bQ H ⟨Z,g,ρ,s,R,h⟩=>eM hP s R (.refl _ _) h λx g1 bN H1 v1 e1 R1 r1 h=>⟨x,Z,g1,bN,s.ext e1,R1,r1,u1 (λbT h cG s'=>h bN H1 cG e1 R1 s') h⟩
theorem a80(hu:X.A.units+100<cLine){i:Expr}(ha:PE X a (LE X.K Ξ (aS P ma)))(ho:PE X o (LE X.K Ξ (aS P mo)))(hi:PE X i (LE X.K Ξ (aS P mi)))(hs:swapsWithSole [.Subscript o i tp] a pos.line X.env=pure false)(kI:∀ v,assign (.Subscript o i tp) X.env v=(do
   let ov <- holding [v] (eval o X.env)
   let iv <- holding [v,ov] (eval i X.env)
   standAt tp
   holding [v,ov,iv] (setItem ov iv v)
   release [v,ov,iv] [])):PS X (.Assign [.Subscript o i tp] a pos) (LS X.K Ξ (wpS P (.cN mo mi ma))) :=
 (Kr ha (XI ho hi (Ol hu) kI) hs).imp λN bQ H ⟨Z,g,ρ,s,R,h⟩ =>
  eM hP s R (.refl _ _) h λx g1 bN H1 v1 e1 R1 r1 h=>eM hP (s.ext e1) R1 e1 h λy g2 dZ H2 v2 e2 R2 r2 h=>eM hP (s.ext (e1.trans e2)) R2 (e1.trans e2) h λz g3 ik H3 v3 e3 R3 r3 h =>
   ⟨y,z,x,g3,ik,R3,r2.ext e3,r3,r1.ext (e2.trans e3),V6 (λg4 h kz H4 e4 R4=>h kz H4 bQ (e1.trans (e2.trans (e3.trans e4))) R4 (s.ext (e1.trans (e2.trans (e3.trans e4))))) h⟩
omit hP in
def wI(K:PySem.W.Frag)(f:Str)(cs:List Str):Prop:=∀c C,c∈cs->l5 K c C->u6 K C f
omit hP in
theorem QM(hF:wI X.K f cs){ρ:List Addr}{H:Hp}{g g':G}{x v:D}{xv vv:V}(R:Rl X.K ρ g H)(rx:d0 X.K ρ H x xv)(rv:d0 X.K ρ H v vv)(h:FQ f cs x v g g') :
  ∃a C dx fs,xv=.ref a/\H a=some (.ins C dx fs)/\iz X.K C/\u6 X.K C f/\fs.length<1000/\Rl X.K ρ g' (upd H a (.ins C dx (p6 f vv fs)))/\Ext ρ H ρ (upd H a (.ins C dx (p6 f vv fs))):=by
 obtain⟨i,c,fs,rfl,hi,hc,hz,rfl⟩:=h;obtain⟨a',rfl,ra⟩:=rx.f6;obtain⟨C,dx,vs,hH,hC,iF,rk,na⟩:=R.ins hi ra;obtain⟨R',e'⟩:=R.put (o':=.ins c (i6 f v fs)) (u:=.ins C dx (p6 f vv vs)) hi rfl ra ⟨hC,iF,rk.p6 rv,BO (p:=λy=>u6 X.K C y) (hF c C hc hC) na⟩;exact⟨a',C,dx,vs,rfl,hH,iF,hF c C hc hC,by rw[<- rk.length];omega,R',e'⟩
theorem QX(hF:wI X.K f cs)(ho:PE X o (LE X.K Ξ (aS P mo)))(ha:PE X a (LE X.K Ξ (aS P ma)))(hs:swapsWith a (some (.Attribute o f tp)) pos.line X.env=pure false):PS X (.Assign [.Attribute o f tp] a pos) (LS X.K Ξ (wpS P (.fC f cs mo ma))) :=
 (XO ho ha hs).imp λN bQ H ⟨Z,g,ρ,s,R,h⟩=>eM hP s R (.refl _ _) h λx g1 bN H1 v1 e1 R1 r1 h=>eM hP (s.ext e1) R1 e1 h λy g2 dZ H2 v2 e2 R2 r2 h=>by
  obtain⟨g3,h,q⟩:=h;obtain⟨a',C,dx,fs,hx,hH,iF,na,hz,R3,e3⟩:=QM hF R2 r2 (r1.ext e2) h;exact⟨a',C,dx,fs,hx,hH,iF,na,hz,q dZ _ bQ (e1.trans (e2.trans e3)) R3 (s.ext (e1.trans (e2.trans e3)))⟩
theorem QU{op:Operator}{p:Pr}(yS:(op=.Add/\p=.iadd)\/(op=.Sub/\p=.nv))(hN:X.Nd)(hi:X.N[i]?=some x)(hx:Loc X.env.scope x)(hf:X.fn x=true\/X.env.scope.names.lookup x=some .local)(ha:PE X a (LE X.K Ξ (aS P ma))):PS X (.AugAssign (.Name x tp) op a pos) (LS X.K Ξ (wpS P (.jw i p ma))):=by
 have ho:Kt X op (r2 X.K p):=by
  intro pins s Z H x y v u Q I rx ry h;obtain⟨d,e,g,ρ,R,rd,re,d',g',hr,q⟩:=h;rcases yS with⟨rfl,rfl⟩|⟨rfl,rfl⟩
  ·rcases hr with⟨i,j,ex,rfl,rfl⟩|⟨l,m,ex,hz,rfl,rfl⟩
   ·obtain⟨rfl,rfl⟩:=x8 ex;obtain rfl:=rd.i8;obtain rfl:=re.i8;exact Pp pins s Z H _ _ v u Q I rx ry ⟨i,j,rfl,rfl,q.now R (.int _)⟩
   ·obtain⟨rfl,rfl⟩:=x8 ex;obtain⟨p1,yi,rfl,t1,nt⟩:=rd.J7;obtain⟨p2,nZ,rfl,t2,lD⟩:=re.J7;refine IL pins s Z H _ _ v u Q I rx ry (.inr ⟨p1,p2,yi,nZ,rfl,rfl,t1.sq,t2.sq,by rw[<- nt.length,<- lD.length];exact B5 hz,λz=>?_,λz=>?_,λp hp=>q.tup R hp (nt.append lD)⟩)
    ·subst z;cases nt;exact q.now R (.tup t2 lD)
    ·subst z;cases lD;rw[fj] at q;exact q.now R (.tup t1 nt)
  ·obtain⟨i,j,ex,rfl,rfl⟩:=hr;obtain⟨rfl,rfl⟩:=x8 ex;obtain rfl:=rd.i8;obtain rfl:=re.i8;exact Pq pins s Z H _ _ v u Q I rx ry ⟨i,j,rfl,rfl,q.now R (.int _)⟩
 refine(XN hN hi hx ha ho hf).imp λN bQ H aZ=>?_;obtain⟨Z,g,ρ,s,R,h⟩:=aZ;obtain⟨xd,LO,h⟩:=h;obtain⟨xv,hv,rx⟩:=s.val _ _ LO;refine⟨xv,hv,eM hP s R (.refl _ _) h λz g1 bN H1 v1 e1 R1 r1 h=>?_⟩;refine⟨xd,z,g1,bN,R1,rx.ext e1,r1,m8 (λw g2 q=>?_) h⟩;exact λdZ H2 v2 e2 R2 r2=>q dZ H2 _ (e1.trans e2) R2 ((s.ext (e1.trans e2)).set i r2)
theorem QT(hF:wI X.K f cs)(ho:PE X o (LE X.K Ξ (aS P mo)))(ha:PE X a (LE X.K Ξ (aS P ma))):PS X (.AugAssign (.Attribute o f tp) .Add a pos) (LS X.K Ξ (wpS P (.jx f cs mo ma))) :=
 (a03 ho ha IL).imp λN bQ H ⟨Z,g,ρ,s,R,h⟩=>eM hP s R (.refl _ _) h λy g1 bN H1 v1 e1 R1 r1 h=>by
  obtain⟨i,c,fs,x,rfl,hi,hc,hf,h⟩:=h;obtain⟨a',rfl,ra⟩:=r1.f6;obtain⟨C,dx,vs,hH,hC,iF,rk,na⟩:=R1.ins hi ra;have lk:=rk.look f;rw[hf] at lk;obtain⟨v,hv,rv⟩:=lk.some;refine⟨a',C,dx,vs,v,rfl,hH,iF,hF c C hc hC,hv,eM hP (s.ext e1) R1 e1 h λz g3 ik H3 v3 e3 R3 r3 h=>?_⟩;obtain⟨d',g',hR,iw,iu,hz,q⟩:=h;have fin:∀{kz:List Addr} {H4:Hp} {vv:V},Ext ik H3 kz H4->Rl X.K kz g' H4->d0 X.K kz H4 d' vv->∃qY iw,H4 a'=some (.ins C qY iw)/\iw.length<1000/\N.nx bQ (upd H4 a' (.ins C qY (p6 f vv iw))):=by
   intro kz H4 vv e4 R4 r4;obtain⟨C2,ER,nZ,zA,EB,zg,DE,Lq⟩:=R4.ins iu ((e3.trans e4).get ra);have:C2=C:=by grind
   subst this;obtain⟨R5,e5⟩:=R4.put (o':=.ins c (i6 f d' iw)) (u:=.ins C2 ER (p6 f vv nZ)) iu rfl ((e3.trans e4).get ra) ⟨EB,zg,DE.p6 r4,BO (p:=λy=>u6 X.K C2 y) (hF c C2 hc EB) Lq⟩;exact⟨ER,nZ,zA,by rw[<- DE.length];omega,q kz _ bQ (e1.trans (e3.trans (e4.trans e5))) R5 (s.ext (e1.trans (e3.trans (e4.trans e5))))⟩
  rcases hR with⟨j,l,ex,rfl,rfl⟩|⟨l,m,ex,wb,rfl,rfl⟩
  ·obtain⟨rfl,rfl⟩:=x8 ex;obtain rfl:=rv.i8;obtain rfl:=r3.i8;exact .inl ⟨_,_,rfl,rfl,fin (.refl _ _) R3 (.int _)⟩
  ·obtain⟨rfl,rfl⟩:=x8 ex;obtain⟨p1,yi,rfl,t1,nt⟩:=(rv.ext e3).J7;obtain⟨p2,nZ,rfl,t2,lD⟩:=r3.J7;refine .inr ⟨p1,p2,yi,nZ,rfl,rfl,t1.sq,t2.sq,by rw[<- nt.length,<- lD.length];exact B5 wb,λz=>?_,λz=>?_,λp hp=>?_⟩
   ·subst z;cases nt;exact fin (.refl _ _) R3 (.tup t2 lD)
   ·subst z;cases lD;rw[fj] at fin;exact fin (.refl _ _) R3 (.tup t1 nt)
   ·exact fin (q9 hp) (R3.grow hp) (.tup (.inl d8) ((nt.append lD).ext (q9 hp)))
theorem We{sa sb:List Stmt}{DN msb:MS}(hc:PT X c (LT X.K Ξ (dF P mc)))(ha:iy X sa (LS X.K Ξ (wpS P DN)))(hb:iy X sb (LS X.K Ξ (wpS P msb))):PS X (.If c sa sb pos) (LS X.K Ξ (wpS P (.ifs mc DN msb))) :=
 (VR hc ha hb).imp λN bQ H ⟨Z,g,ρ,s,R,h⟩=>oa hP s R (.refl _ _) h λt g1 bN H1 e1 R1 h=>by
  cases t
  ·exact qv hP (s.ext e1) R1 e1 h (LN.ext e1)
  ·exact qv hP (s.ext e1) R1 e1 h (LN.ext e1)
theorem Ik(ha:PE X a (LE X.K Ξ (aS P ma))):PS X (.Return (some a) pos) (LS X.K Ξ (wpS P (.ret ma))) :=
 (XR ha).imp λN bQ H ⟨Z,g,ρ,s,R,h⟩=>⟨Z,g,ρ,s,R,h⟩
theorem a79{body:List Stmt}{mb:MS}(hp:PassesOwn (model X.prog X.w) X.A X.env X.xe)(hc:PT X c (LT X.K Ξ (dF P mc)))(hb:iy X body (LS X.K Ξ (wpS P mb))):PS X (.While c body [] pos) (LS X.K Ξ (wpS P (.iU mc mb))) :=
 (Sz hp hc hb).imp λN bQ H aZ=>by
  obtain⟨Z,g,ρ,s,R,h⟩:=aZ;obtain⟨W,⟨m0,w0⟩,h⟩:=h;refine⟨λm cG H'=>∃bT g' bH,Ext ρ H bH H'/\k6 X.K bH H' bT cG/\Rl X.K bH g' H'/\W m bT g',⟨m0,Z,g,ρ,.refl _ _,s,R,w0⟩,?_⟩;rintro m cG H' ⟨bT,g',bH,e1,s',R',w'⟩;refine oa hP s' R' e1 (h m bT g' w') λt g1 bN H1 e2 R1 q=>?_;cases t
  ·exact q bN H1 cG (e1.trans e2) R1 (s'.ext e2)
  ·obtain⟨N2,zx,q⟩:=q;refine⟨λjm H2=>∃cb g2 dZ,Ext ρ H dZ H2/\k6 X.K dZ H2 cb jm/\Rl X.K dZ g2 H2/\N2 cb g2,?_,?_⟩
   ·rintro jm H2 ⟨cb,g2,dZ,e3,s2,R2,n2⟩;obtain⟨m',hm,w2⟩:=zx cb g2 n2;exact⟨m',hm,cb,g2,dZ,e3,s2,R2,w2⟩
   ·refine qv hP (s'.ext e2) R1 (e1.trans e2) q ⟨?_,?_,?_,?_⟩
    ·exact λhX g3 n3 ik H3 jO e3 R3 s3=>⟨hX,g3,ik,(e1.trans e2).trans e3,s3,R3,n3⟩
    ·exact λd g3 h=>h.ext (e1.trans e2)
    ·exact λhX g3 h ik H3 jO e3 R3 s3=>h ik H3 jO ((e1.trans e2).trans e3) R3 s3
    ·exact λhX g3 n3 ik H3 jO e3 R3 s3=>⟨hX,g3,ik,(e1.trans e2).trans e3,s3,R3,n3⟩
theorem OC{iter:Expr}{body:List Stmt}{mb:MS}(hp:PassesOwn (model X.prog X.w) X.A X.env X.xe)(hc:X.calm=true)(hi:PI X tg iter (LI X.K Ξ (gb P mi)))(hg:PG X tg (LG X.K t))(hb:iy X body (LS X.K Ξ (wpS P mb)))(hs:∀x,foldedSetIterable iter X.env x=pure x):PS X (.For tg iter body [] pos) (LS X.K Ξ (wpS P (.eF t mi mb))) :=
 (XQ hp hc hi hg hb hs).imp λN bQ H aZ=>by
  obtain⟨Z,g,ρ,s,R,h⟩:=aZ;refine⟨Z,g,ρ,s,R,w5 hP mi _ _ _ _ _ _ (λk g1 h bN H1 J e1 R1 j1=>?_) (λ_ _ z=>z) h⟩;obtain⟨W,⟨m0,w0⟩,h⟩:=h;refine⟨λi m cG H'=>∃bT g' bH,Ext bN H1 bH H'/\k6 X.K bH H' bT cG/\Rl X.K bH g' H'/\W i m bT g',⟨m0,Z,g1,bN,.refl _ _,s.ext e1,R1,w0⟩,?_⟩;rintro i m cG H' ⟨bT,g',bH,e',s',R',w'⟩;obtain⟨tm,tj⟩:=j1 bH g' H' e' R' i;rcases h i m bT g' w' with⟨ek,q⟩|⟨x,ek,N2,zx,q⟩
  ·exact .inl ⟨tm ek,q bH H' cG (e1.trans e') R' s'⟩
  ·obtain⟨go,yl⟩:=tj x ek;refine .inr ⟨go,λjm H2=>∃cb g2 dZ,Ext bN H1 dZ H2/\k6 X.K dZ H2 cb jm/\Rl X.K dZ g2 H2/\N2 cb g2,?_,?_⟩
   ·rintro jm H2 ⟨cb,g2,dZ,e2,s2,R2,n2⟩;obtain⟨m',hm,w2⟩:=zx cb g2 n2;exact⟨m',hm,cb,g2,dZ,e2,s2,R2,w2⟩
   ·intro v H2 y;obtain⟨e2,R2,r2⟩:=yl v H2 y;refine⟨x,bT,g',bH,s'.ext e2,R2,r2,u1 (λcb q jm s2=>?_) q⟩;refine qv hP s2 R2 (e1.trans (e'.trans e2)) q ⟨?_,?_,?_,?_⟩
    ·exact λhX g3 n3 ik H3 jO e3 R3 s3=>⟨hX,g3,ik,(e'.trans e2).trans e3,s3,R3,n3⟩
    ·exact λd g3 h=>h.ext (e1.trans (e'.trans e2))
    ·exact λhX g3 h ik H3 jO e3 R3 s3=>h ik H3 jO (e1.trans ((e'.trans e2).trans e3)) R3 s3
    ·exact λhX g3 n3 ik H3 jO e3 R3 s3=>⟨hX,g3,ik,(e'.trans e2).trans e3,s3,R3,n3⟩
theorem Jw{c7:List Nat}{n:Nat}{iq me:ME}:∀bQ H Q,LE X.K Ξ (aS P (.comp c7 n t mi iq me)) bQ H Q->Cm (LI X.K Ξ (gb P mi)) c7 n (LG X.K t) (LT X.K (mS Ξ.1) (dF P iq)) (LE X.K (mS Ξ.1) (aS P me)) bQ H Q:=λbQ H Q aZ=>by
 obtain⟨Z,g,ρ,s,R,h⟩:=aZ;refine⟨Z,g,ρ,s,R,w5 hP mi _ _ _ _ _ _ (λk g1 h bN H1 J e1 R1 j1=>?_) (λ_ _ z=>z) h⟩;obtain⟨W,⟨m0,w0⟩,h⟩:=h;refine⟨λi m Dp cG H'=>∃ys bT g' bH,Ext bN H1 bH H'/\k6 X.K bH H' bT cG/\Rl X.K bH g' H'/\b7 X.K bH H' ys Dp/\W i m ys bT g',⟨m0,[],_,g1,bN,.refl _ _,(s.ext e1).c7 c7 n,R1,.nil,w0⟩,?_⟩;rintro i m Dp cG H' ⟨ys,bT,g',bH,e',s',R',ry,w'⟩;obtain⟨tm,tj⟩:=j1 bH g' H' e' R' i;rcases h i m ys bT g' w' with⟨ek,q⟩|⟨x,ek,hz,q⟩
 ·exact .inl ⟨tm ek,λp hp=>(q.ext (e1.trans e')).new R' hp ry⟩
 ·obtain⟨go,yl⟩:=tj x ek;refine .inr ⟨go,by rw[<- ry.length];exact AX hz,λv H2 y=>?_⟩;obtain⟨e2,R2,r2⟩:=yl v H2 y;refine⟨x,bT,g',bH,s'.ext e2,R2,r2,u1 (λcb q jm s2=>?_) q⟩;refine⟨cb,g',bH,s2,R2,m4 hP iq _ _ _ _ _ _ (λb g3 q ik H3 e3 R3=>?_) (λ_ _ z=>z.elim) q⟩;cases b
  ·obtain⟨m',hm,w3⟩:=q;exact⟨m',hm,ys,cb,g3,ik,(e'.trans e2).trans e3,s2.ext e3,R3,(ry.ext e2).ext e3,by simpa using w3⟩
  ·refine⟨cb,g3,ik,s2.ext e3,R3,b8 hP me _ _ _ _ _ _ (λz g4 q kz H4 v4 e4 R4 r4=>?_) (λ_ _ z=>z.elim) q⟩;obtain⟨m',hm,w4⟩:=q;exact⟨m',hm,ys++[z],cb,g4,kz,(e'.trans e2).trans (e3.trans e4),(s2.ext e3).ext e4,R4,(((ry.ext e2).ext e3).ext e4).append (.cons r4 .nil),by simpa using w4⟩
theorem a90{elt iter:Expr}{ifs:List Expr}{scope:Scope}{N':List Str}{c7:List Nat}{cl:List (Str×Addr)}{p2 iX:Pos}{iq me:ME}(S:cj X scope N' c7 cl)(hc:X.calm=true)(hi:PI X tg iter (LI X.K Ξ (gb P mi)))(hg:∀pins C s H fp,PG (c8 X pins scope N' cl C s H fp) tg (LG X.K t))(ht:∀pins C s H fp,iO (c8 X pins scope N' cl C s H fp) ifs (LT X.K (mS Ξ.1) (dF P iq)))(he:∀pins C s H fp,PE (c8 X pins scope N' cl C s H fp) elt (LE X.K (mS Ξ.1) (aS P me)))(hs:∀x,foldedSetIterable iter X.env x=pure x)(lR:Gl X "sorted")(nE:X.mg "sorted"=none):PE X (.Call (.Name "sorted" p2) [.SetComp elt [⟨tg,iter,ifs,0⟩] scope pos] [] iX) (LE X.K Ξ (aS P (.gp c7 N'.length t mi iq me))) :=
 (xq (Y0 hc) lR nE (by rfl) (T3 (Sr S hc hi hg ht he hs) se)).imp λbQ H Q aZ=>by
  obtain⟨Z,g,ρ,s,R,h⟩:=aZ;refine⟨Z,g,ρ,s,R,w5 hP mi _ _ _ _ _ _ (λk g1 h bN H1 J e1 R1 j1=>?_) (λ_ _ z=>z) h⟩;obtain⟨W,⟨m0,w0⟩,h⟩:=h;refine⟨λi m ys cG H'=>∃bT g' bH,Ext bN H1 bH H'/\k6 X.K bH H' bT cG/\Rl X.K bH g' H'/\W i m ys bT g',⟨m0,_,g1,bN,.refl _ _,(s.ext e1).c7 c7 _,R1,w0⟩,?_⟩;rintro i m ys cG H' ⟨bT,g',bH,e',s',R',w'⟩;obtain⟨tm,tj⟩:=j1 bH g' H' e' R' i;rcases h i m ys bT g' w' with⟨ek,hz,q⟩|⟨x,ek,hz,q⟩
  ·exact .inl ⟨tm ek,λp hp=>⟨p,ys,rfl,d8,by omega,λp' ia=>(q.ext ((e1.trans e').trans (q9 hp))).new (R'.grow hp) ia (b7.ofInts _)⟩⟩
  ·obtain⟨go,yl⟩:=tj x ek;refine .inr ⟨go,hz,λv H2 y=>?_⟩;obtain⟨e2,R2,r2⟩:=yl v H2 y;refine⟨x,bT,g',bH,s'.ext e2,R2,r2,u1 (λcb q jm s2=>?_) q⟩;refine⟨cb,g',bH,s2,R2,m4 hP iq _ _ _ _ _ _ (λb g3 q ik H3 e3 R3=>?_) (λ_ _ z=>z.elim) q⟩;cases b
   ·obtain⟨m',hm,w3⟩:=q;exact⟨m',hm,cb,g3,ik,(e'.trans e2).trans e3,s2.ext e3,R3,by simpa using w3⟩
   ·refine⟨cb,g3,ik,s2.ext e3,R3,b8 hP me _ _ _ _ _ _ (λz g4 q kz H4 v4 e4 R4 r4=>?_) (λ_ _ z=>z.elim) q⟩;obtain⟨j,rfl,m',hm,w4⟩:=q;obtain rfl:=r4.i8;exact⟨j,rfl,m',hm,cb,g4,kz,(e'.trans e2).trans (e3.trans e4),(s2.ext e3).ext e4,R4,by simpa using w4⟩
end
end M
namespace M
open PySem L2
section
variable{X:Cx}{Ξ:gJ}{P:eB}{o:Expr}{mo:ME}{pos:Pos}(hP:f9 P)
include hP
theorem QD{kx vx:Expr}{elts ifs:List Expr}{x1 j:Nat}{tp apos ip:Pos}{scope:Scope}{N':List Str}{cl:List (Str×Addr)}(S:cj X scope N' [j] cl)(h3:N'.length=4)(hc:X.calm=true)(ho:PE X o (LE X.K Ξ (aS P mo)))(hb:attributeBase o "items" X.env (eval o X.env)=eval o X.env)(hl:(apos.endLine==ip.line)=true)(hg:∀pins C s H fp,PG (c8 X pins scope N' cl C s H fp) (.Tuple elts x1 tp) (AH X.K 2 (uT [2,3])))(ht:∀pins C s H fp,iO (c8 X pins scope N' cl C s H fp) ifs (uN (oh (yt X.K true) (Y3 0) (Y3 3))))(hk:∀pins C s H fp,PE (c8 X pins scope N' cl C s H fp) kx (Y3 2))(hv:∀pins C s H fp,PE (c8 X pins scope N' cl C s H fp) vx (Y3 3)) :
  PE X (.DictComp kx vx [⟨.Tuple elts x1 tp,.Call (.Attribute o "items" apos) [] [] ip,ifs,0⟩] scope pos) (LE X.K Ξ (aS P (.prim .lY (.cons mo (.cons (.var j) .nil))))) :=
 Qo (JH S hc (Su ho hb hl) hg ht hk hv λ_=>rfl) λbQ H Q aZ=>by
  obtain⟨Z,g,ρ,s,R,h⟩:=aZ;refine⟨Z,g,ρ,s,R,b8 hP mo _ _ _ _ _ _ (λx g1 h bN H1 v1 e1 R1 r1=>?_) (λ_ _ z=>z) h⟩;obtain⟨d,dj,d',g',⟨a',n,fs,ex,ze,hl,nd,rfl,rfl⟩,q⟩:=h;obtain⟨rfl,rfl⟩:=x8 ex;obtain⟨a,rfl,ra⟩:=r1.f6;obtain⟨vs,ha,kr⟩:=R1.bC ze ra;obtain⟨w,hw,eW⟩:=(s.ext e1).val j _ dj;obtain rfl:=eW.i8;have vl:vs.length=fs.length:=by rw[<- kr.length,av]
  refine⟨a,vs,rfl,ha,λφ yI=>⟨λi m ys cG H'=>m+i=fs.length/\(∃y0 y1 y2,cG=[some (.int n),y0,y1,y2])/\(∀b u,upd H1 a (.ext φ) b=some u->H' b=some u)/\d5 X.K bN H1 (((fs.take i).filter (X7 n)).map kK) ys,⟨fs.length,by simp,⟨none,none,none,?_⟩,λ_ _ z=>z,by simpa using d5.nil⟩,?_⟩⟩
  ·rw[h3];unfold u5;simp[hw]
  rintro i m ys cG H' ⟨hm,⟨y0,y1,y2,rfl⟩,up,ky⟩;have ua:H' a=some (.ext φ):=up _ _ d8;have tp:∀b xs,H1 b=some (.tup xs)->H' b=some (.tup xs):=λb xs z=>up _ _ (by rw[b9];exact z;intro e;rw[e,ha] at z;cases z);cases m with
  |zero =>
   have hi:i=fs.length:=by omega
   subst hi;rw[cg] at ky;refine .inl ⟨⟨ua,by omega⟩,λp hp=>⟨a,φ,vs,?_,yI,?_⟩⟩
   ·rw[b9 (d4 ua hp)];exact ua
   have wg:a≠p:=d4 ua hp;have sw:upd (upd H' p (.dK ys)) a (.dK vs)=upd (upd H' a (.dK vs)) p (.dK ys):=funext λb=>by
    by_cases h1:b=a
    ·rw[h1,d8,b9 wg,d8]
    ·rw[b9 h1];by_cases h2:b=p
     ·rw[h2,d8,d8]
     ·rw[b9 h2,b9 h2,b9 h1]
   rw[sw];have sup:∀b u,H1 b=some u->upd H' a (.dK vs) b=some u:=λb u z=>by
    by_cases h1:b=a
    ·rw[h1,d8,<- ha,<- h1];exact z
    ·rw[b9 h1];exact up _ _ (by rw[b9 h1];exact z)
   have x1:Ext bN H1 bN (upd H' a (.dK vs)):=⟨⟨[],by simp⟩,λb xs z=>sup _ _ z⟩
   have kE:upd H' a (.dK vs) p=none:=by rw[b9 wg.symm];exact hp
   exact q (bN++[p]) _ _ (e1.trans (x1.trans (u2 kE))) ((R1.sup sup).new kE (o:=.bC _) (u:=.dK ys) (ky.ext x1)) (.ref (R1.m7 p))
  |succ m =>
   have hi:i<fs.length:=by omega
   have yl:ys.length<=i:=by
    rw[<- ky.length,av];exact aA (dt _ _) (by rw[cy];exact Nat.min_le_left _ _)
   refine .inr ⟨⟨ua,by omega⟩,by omega,?_⟩;rintro x H2 ⟨p,k,x,hp,rfl,hx,rfl⟩;obtain⟨⟨k',n1,n2⟩,hf⟩:∃f,fs[i]?=some f:=⟨_,ak hi⟩
   obtain⟨v,DW,rv⟩:=kr.get (i:=i) (k:=k') (d:=.tup [.int n1,.int n2]) (by rw[ah,hf];rfl);rw[hx] at DW;obtain⟨rfl,rfl⟩:=xX (aD DW);obtain⟨q',ws,rfl,tq,rs⟩:=rv.J7;obtain rfl:=b7.ints (ns:=[n1,n2]) rs;have x2:Ext bN H1 bN (upd H' p (.tup [kV k,.ref q'])):=⟨⟨[],by simp⟩,λb xs z=>by rw[b9 (d4 (tp b xs z) hp)];exact tp b xs z⟩
   have vO:∀b u,upd H1 a (.ext φ) b=some u->upd H' p (.tup [kV k,.ref q']) b=some u:=λb u z=>by rw[b9 (d4 (up b u z) hp)];exact up b u z
   have tk:fs.take (i+1)=fs.take i++[(k,n1,n2)]:=by rw[bt,hf];rfl
   refine⟨p,_,rfl,TupAt.sq (.inl d8),rfl,_,_,rfl,_,_,rfl,rfl,?_⟩;refine⟨.int n,rfl,.ref q',rfl,q',_,rfl,.inr (tq.ext x2).sq,rfl,rfl,_,rfl,?_⟩;have hk:(!wa (.int n) ([n1,n2].map V.int))=X7 n (k,n1,n2):=by simp[wa,jW,X7,Bool.beq_eq_decide_eq]
   rw[aN rfl,hk];cases hz:X7 n (k,n1,n2) with
   |false =>
    refine⟨m,by omega,by omega,⟨_,_,_,rfl⟩,vO,?_⟩;rw[tk,cz,dc,hz];simpa using ky
   |true =>
    refine⟨kV k,rfl,k,rfl,.ref q',rfl,m,by omega,by omega,⟨_,_,_,rfl⟩,vO,?_⟩;rw[tk,cz,dc,hz];have:=ky.put (k:=k) rv;have np:((((fs.take i).filter (X7 n)).map kK).any λkv=>decide (kv.1=k))=false:=by
     rw[jM];intro y hy e;obtain⟨f,zf,rfl⟩:=aE.mp hy;have tS:=(bg.mp zf).1;have e:f.1=k:=aQ e;obtain⟨i',iu,e'⟩:=fq tS;have l1:i'<i:=by rw[cy] at iu;omega
     have yw:=cQ.mp nd i' i (by simp;omega) (by simpa using hi) l1;apply yw;rw[jJ] at e';have MA:fs[i]=(k,n1,n2):=by rw[ak hi] at hf;exact aD hf
     simp[e',MA,e]
    rw[putD,aG (by rw[np];decide)] at this;simpa[kK] using this
theorem QV{kx vx l:Expr}{elts:List Expr}{x1 i:Nat}{x:Str}{tp ep ip px jP:Pos}{scope:Scope}{N':List Str}{cl:List (Str×Addr)}{ml:ME}(S:cj X scope N' [] cl)(h3:N'.length=3)(hc:X.calm=true)(hl:PE X l (LE X.K Ξ (aS P ml)))(Eh:Gl X "enumerate")(hm:X.mg "enumerate"=none)(hs:starEach [l] X.env=[(false,eval l X.env)])(hg:∀pins C s H fp,PG (c8 X pins scope N' cl C s H fp) (.Tuple elts x1 tp) (AH X.K 2 (uT [1,2])))(hk:∀pins C s H fp,PE (c8 X pins scope N' cl C s H fp) kx (Y3 2))(hv:∀pins C s H fp,PE (c8 X pins scope N' cl C s H fp) vx (Y3 1))(hN:X.Nd)(mI:X.N[i]?=some x)(hx:Loc X.env.scope x)(hf:X.fn x=true\/X.env.scope.names.lookup x=some .local) :
  PS X (.Assign [.Name x px] (.DictComp kx vx [⟨.Tuple elts x1 tp,.Call (.Name "enumerate" ep) [l] [] ip,[],0⟩] scope pos) jP) (LS X.K Ξ (wpS P (.set i (.prim .kL (.cons ml .nil))))) :=
 (aF4 S hc (Ja Eh hm (v9 hP hl (E7 hP) (by rw[hs];rfl)) hs) hg (λ_ _ _ _ _=>Je) hk hv (λ_=>rfl) hN mI hx hf).imp λN bQ H aZ=>by
  obtain⟨Z,g,ρ,s,R,h⟩:=aZ;refine iV hP (m:=.cons ml .nil) s R (.refl _ _) (Q0:=λxs g1=>cF .kL xs g1 λx g2=>(LN X.K ρ H N).nx (Z.set i (some x)) g2) h λxs g1 bN H1 vs e1 R1 r1 h=>?_;obtain⟨d',g',⟨a',ns,rfl,ze,hl,nd,rfl,rfl⟩,q⟩:=h;obtain⟨v,rfl,rv⟩:=r1.one;obtain⟨a,rfl,ra⟩:=rv.f6;obtain⟨vs,ha,rs⟩:=R1.lst ze ra;obtain rfl:=rs.ints;refine⟨a,rfl,⟨_,eQ.of ha⟩,λi m ys cG H'=>m+i=ns.length/\(∃y0 y1 y2,cG=[y0,y1,y2])/\(∀b u,H1 b=some u->H' b=some u)/\ys=(ns.zipIdx.take i).map λp=>((.inl p.1:Key),V.int p.2),⟨ns.length,by simp,⟨none,none,none,?_⟩,λ_ _ z=>z,by simp⟩,?_⟩
  ·rw[h3];rfl
  rintro i' m ys cG H' ⟨hm,⟨y0,y1,y2,rfl⟩,up,rfl⟩;have hq:eQ X.K H' a (ns.map V.int):=eQ.of (up _ _ ha);cases m with
  |zero =>
   have hi:i'=ns.zipIdx.length:=by rw[List.length_zipIdx];omega
   refine .inl ⟨⟨_,hq,by simp;omega⟩,λp hp=>?_⟩;rw[hi,cg];have x1:Ext bN H1 bN H':=⟨⟨[],by simp⟩,λb xs z=>up _ _ z⟩
   have e2:=e1.trans (x1.trans (u2 (o:=.dK (ns.zipIdx.map λp=>((.inl p.1:Key),V.int p.2))) hp));refine q (bN++[p]) _ _ e2 ((R1.sup up).new hp (o:=.bC (oN ns)) (u:=.dK (ns.zipIdx.map λp=>((.inl p.1:Key),V.int p.2))) ?_) ((s.ext e2).set i (.ref (R1.m7 p)));have:∀l:List (Int×Nat),d5 X.K bN H' (l.map λp=>((.inl p.1:Key),D.int p.2)) (l.map λp=>((.inl p.1:Key),V.int p.2)):=λl=>by
    induction l with
    |nil=>exact .nil
    |cons y l ih=>exact .cons (.int _) ih
   exact this _
  |succ m =>
   have hi:i'<ns.length:=by omega
   refine .inr ⟨⟨_,_,hq,by rw[ah,ak hi];rfl⟩,by simp;omega,?_⟩;rintro x H2 ⟨p,x,hp,rfl,hx,rfl⟩;have hx:=hx _ hq;rw[ah,ak hi] at hx;cases hx;have vO:∀b u,H1 b=some u->upd H' p (.tup [.int i',.int ns[i']]) b=some u:=λb u z=>by rw[b9 (d4 (up b u z) hp)];exact up b u z
   refine⟨p,_,rfl,TupAt.sq (.inl d8),rfl,_,_,rfl,_,_,rfl,rfl,?_⟩;dsimp only[Fd];rw[aN rfl];refine⟨.int ns[i'],rfl,.inl ns[i'],rfl,.int i',rfl,m,by omega,by omega,⟨_,_,_,rfl⟩,vO,?_⟩;have tk:ns.zipIdx.take (i'+1)=ns.zipIdx.take i'++[(ns[i'],i')]:=by rw[bt,List.getElem?_zipIdx,ak hi];simp
   rw[tk,bB];have np:((ns.zipIdx.take i').map λp=>((.inl p.1:Key),V.int p.2)).any (λkv=>decide (kv.1=.inl ns[i']))=false:=by
    rw[jM];intro y hy e;obtain⟨f,zf,rfl⟩:=aE.mp hy;have e:(Sum.inl f.1:Key)=.inl ns[i']:=aQ e;have e:f.1=ns[i']:=df e;obtain⟨j,hj,e'⟩:=fq zf;have l1:j<i':=by rw[cy] at hj;omega
    rw[jJ,List.getElem_zipIdx] at e';have yw:=cQ.mp nd j i' () hi l1;apply yw;exact(dX Prod.fst e').trans e
   unfold putK;rw[aG (by rw[np];decide)]
   rfl
end
end M
namespace M
open PySem L2 PySem.Spec PyProof.Rows
variable{X:Cx}{Ξ:gJ}{P:eB}{x qual:Str}{pos px:Pos}{c:d6}{i n:Nat}{e o b:Expr}{es args:List Expr}{env:Env}{p:Pr}{f:Addr}{m:ME}{sc scope:Scope}{r:CF}{cd:Value}{N:List Str}{A:Around}{outer:List Env}{s:Shared}{H:Hp}{E:XK}
section
variable(hP:f9 P)
include hP
theorem a81{C:Addr}{B newId fV:String}{bm:List Value}{np dU:Pos}{jc:Expr}{rest:List Expr}{gc:ME}(hc:X.calm=true)(O:OwnCls x C bm newId X.mg X.base)(FB:ExcBaseFacts B newId fV bm)(hg:Gl X x)(ha:PA X (jc::rest) (LA X.K Ξ (fc P gc)))(hr:wU X Ξ.2)(hx:x∈Ξ.1)(hC:l5 X.K x C)(he:starEach (jc::rest) X.env=(false,eval jc X.env)::starEach rest X.env)(eE:(backTo dU (starEach rest X.env)).any (·.1)=false)(hd:(x==("__debug__":Str))=false):PS X (.Raise (some (.Call (.Name x np) (jc::rest) [] dU)) none pos) (LS X.K Ξ (wpS P (.raise x gc))) :=
 (Sy hc O FB hg ha hr he eE hd).imp λN bQ H aZ=>by
  obtain⟨Z,g,ρ,s,R,h⟩:=aZ;refine iV hP s R (.refl _ _) h λds g1 bN H1 vs e1 R1 r1 h=>?_;exact⟨by rw[<- r1.length];exact B5 (aA h.1 ∅),h.2 bN H1 C e1 R1 hx hC⟩
def xC(X:Cx)(ex:List Str)(D:L2.Ends)(cM:L2.St)(hs:List ExceptHandler):gJ:=(ex,λv _ H=>∃C,v=.ref C/\qg X D cM C H hs)
inductive kO(X:Cx)(Ξ:gJ)(P:eB):List ExceptHandler->List (Str×ME)->Prop
 |nil (hh:uO X Ξ.2):kO X Ξ P [] []
 |cons {y:Str} {C':Addr} {p p1 p2:Pos} {e:Expr} {me:ME} {hs:List ExceptHandler} {ms:List (Str×ME)} (hg:Gl X y) (hd:(y==("__debug__":Str))=false) (hm:X.mg y=some (.ref C'))
   (hx:∀x C,x∈Ξ.1->l5 X.K x C->PySem.W.exmOne X.K (.ref C) (.ref C')=some (decide (x=y\/y="MintError"))) (he:∀ea,PE (C9 X ea) e (LE X.K (mS Ξ.1) (aS P me))) (r:kO X Ξ P hs ms) :
   kO X Ξ P (.ExceptHandler (some (.Name y p)) none [.Return (some e) p1] p2::hs) ((y,me)::ms)
theorem JT{N:L2.Ends}{ρ bH:List Addr}{H H':Hp}{Z:S}{g:G}{x:Xn}{C:Addr}(hl:Z.length=X.N.length)(e:Ext ρ H bH H')(R:Rl X.K bH g H')(hx:x.cls∈Ξ.1)(hC:l5 X.K x.cls C) :
  ∀{hs:List ExceptHandler} {ms:List (Str×ME)},kO X Ξ P hs ms->kA P (LN X.K ρ H N) (Z.map λ_=>none) (LX X.K ρ H Ξ) ms x g->qg X N (List.replicate X.N.length none) C H' hs
 |_,_,.nil hh,q=>⟨Ξ.2,hh,q bH H' C e R hx hC⟩
 |_,_,.cons (me:=me) hg hd hm LM he r,q=>by
  refine⟨hg,hd,_,_,hm,LM _ _ hx hC,?_⟩;unfold kA at q;split at q
  ·rename_i ex;rw[aN (by simpa using ex)];refine⟨LS X.K (mS Ξ.1) (wpS P (.seq (.ret me) .pass)),λea=>Jn (X:=C9 X ea) (Ξ:=mS Ξ.1) hP (Ik (X:=C9 X ea) hP (he ea)) (Ii (X:=C9 X ea) hP),?_⟩;refine⟨Z.map λ_=>none,g,bH,⟨by simp[hl],λi d z=>?_⟩,R,?_⟩
   ·simp_all
   ·refine b8 hP me _ _ _ _ _ _ (λd g1 h=>?_) (λ_ _ z=>z.elim) q;exact h.ext e
  ·rename_i ex;rw[aG (by simpa using ex)];exact JT hl e R hx hC r q
theorem OD{h₀:ExceptHandler}{hs:List ExceptHandler}{ms:List (Str×ME)}{body:List Stmt}{mb:MS}(mE:X.sg=none)(hb:∀pins D,iy (V4 X pins (xP X pins D (h₀::hs))) body (LS X.K (xC X Ξ.1 D (List.replicate X.N.length none) (h₀::hs)) (wpS P mb)))(hh:kO X Ξ P (h₀::hs) ms):PS X (.Try body (h₀::hs) [] [] pos) (LS X.K Ξ (wpS P (.nU mb ms))):=by
 intro pins s bQ H N I ⟨Z,g,ρ,sr,R,h⟩;refine XS (t:=λD _=>LS X.K (xC X Ξ.1 D (List.replicate X.N.length none) (h₀::hs)) (wpS P mb)) (Ξ:=λD _=>(xC X Ξ.1 D (List.replicate X.N.length none) (h₀::hs)).2) (λ_=>none) (λ_=>List.replicate X.N.length none) (λ_ _ z=>by cases z) mE (λpins D _ _=>hb pins D) pins s bQ H N I ⟨λC H' ⟨C',e,z⟩=>by simp_all,?_⟩;refine⟨Z,g,ρ,sr,R,wpS_mono hP mb _ _ _ _ _ _ ⟨λ_ _ z=>z,λ_ _ z=>z,λ_ _ z=>z,λ_ _ z=>z⟩ (λx g1 q bH H' C e' R' hm hc=>⟨C,rfl,?_⟩) h⟩;exact JT (Ξ:=Ξ) hP (sr.len.trans I.len) e' R' hm hc hh q
end
structure d6 where
 N:List Str
 nm:List (Str×NameKind)
 la:Bool
 fns:List (Str×Nat)
 con:List (Str×D)
 blt:List Str
 exc:List Str
 gd:List (Str×List D)
 cls:List (Str×Nat)
 my:List (Str×Str×Nat)
 mP:List (Str×Str)
 iW:Bool
 iC:Bool
 wr:Bool:=true
def fR:Expr->Bool
 |.Set ..=>false
 |.Starred ..=>false
 |.Slice ..=>false
 |_=>true
def w9:Expr->Bool
 |.ListComp ..=>false
 |.SetComp ..=>false
 |.DictComp ..=>false
 |_=>true
def FL:Expr->Bool
 |.Name ..=>false
 |_=>true
def rP:Expr->Bool
 |.Tuple ..=>false
 |_=>true
def BB:Expr->Bool
 |.Name ..=>true
 |.Call ..=>true
 |.Subscript ..=>true
 |.Constant ..=>true
 |.Attribute ..=>true
 |.BinOp ..=>true
 |_=>false
def rY:Expr->Bool
 |.Call (.Name ..) [] ..=>false
 |_=>true
def d6.idx(c:d6)(x:Str):Option Nat:=c.N.findIdx? λy=>decide (y=x)
def d6.oZ(c:d6)(x:Str):Bool:=match c.nm.lookup x with
 |some .local=>true
 |some .cell=>true
 |some .free=>true
 |_=>false
def d6.gl(c:d6)(x:Str):Bool:=decide (c.nm.lookup x=some .globalImplicit)
def d6.t8(c:d6)(x:Str):Bool:=decide (c.nm.lookup x=some .local)||decide (c.nm.lookup x=some .cell)
def T9(x:Str):Bool:=(x==("__debug__":Str))==false&&(x==("__classdict__":Str))==false&&decide (x≠"__name__")
def Cn:List (Str×String):=[("int","int"),("bool","bool"),("str","str"),("tuple","tuple"),("list","list")]
def Cs:List (Str×Pr):=[("len",.len),("list",.list),("isinstance",.isin),("all",.all),("int",.int),("sorted",.dR),("sum",.sum),("set",.pE)]
def vc:List (Str×Pr):=[("clear",.clear),("pop",.pA)]
def CA:List (Str×Pr):=[("append",.append),("pop",.pop),("add",.jo)]
def uZ:Expr->Option (Str×List Expr)
 |.Call (.Name x _) args [] _=>some (x,args)
 |_=>none
def Fq:Expr->Bool
 |.Tuple ..=>true
 |_=>false
def asName:Expr->Option Str
 |.Name x _=>some x
 |_=>none
def frees(sc:Scope):List Str:=(sc.names.filter λy=>decide (y.2=.free)).map (·.1)
def locals(sc:Scope):List Str:=(sc.names.filter λy=>decide (y.2=.local)||decide (y.2=.cell)).map (·.1)
def d6.inner(c:d6)(sc:Scope):d6:={ c with N:=frees sc++locals sc,nm:=sc.names,la:=false,iW:=false,iC:=false,wr:=true }
def d6.c7(c:d6)(sc:Scope):List Nat:=(frees sc).map λx=>(c.idx x).getD 0
def d6.vh(c:d6)(sc:Scope):Bool :=
 decide (sc.kind=.function)&&sc.names.all (λy=>!decide (y.2=.cell)||decide (sc.names.lookup y.1=some .cell))&&sc.names.all (λy=>!decide (y.2=.local)||decide (sc.names.lookup y.1=some .local)) &&
 decide (frees sc++locals sc).Nodup&&(frees sc).all (λx=>(c.idx x).isSome&&decide (sc.names.lookup x=some .free)&&(decide (c.nm.lookup x=some .cell)||decide (c.nm.lookup x=some .free)))
def d6.slot(c:d6)(e:Expr):Option Nat:=(asName e).bind λx=>if c.t8 x then c.idx x else none
def d6.slots(c:d6):List Expr->Option (List Nat)
 |[]=>some []
 |e::r=>(c.slot e).bind λi=>(c.slots r).map λis=>i::is
def d6.tg(c:d6)(e:Expr):Option MT:=((c.slot e).map .one).orElse λ_=>match e with
 |.Tuple es _ _=>(c.slots es).map .many
 |_=>none
def qh:Const->Option D
 |.int i=>some (.int i)
 |.bool b=>some (.bl b)
 |.none=>some .bc
 |.str x=>some (.str x)
 |_=>none
structure CF where
 e:d6->Expr->Option ME
 t:d6->Expr->Option ME
 s:d6->Stmt->Option MS
section
variable(r:CF)(c:d6)
def c1(p:Pr)(a:Expr):Option ME:=(r.e c a).map λm=>.prim p (.cons m .nil)
def c2(p:Pr)(a b:Expr):Option ME:=(r.e c a).bind λma=>(r.e c b).map λmb=>.prim p (.cons ma (.cons mb .nil))
def J1:List Expr->Option ME
 |[]=>some .nil
 |e::es=>if fR e then(r.e c e).bind λm=>(J1 es).map λms=>.cons m ms else none
def xF:List (Option Expr)->List Expr->Option ME
 |[],[]=>some .nil
 |some k::ks,v::vs=>(r.e c k).bind λmk=>(r.e c v).bind λmv=>(xF ks vs).map λms=>.cons mk (.cons mv ms)
 |_,_=>none
def BY(op:BoolOp):List Expr->Option ME
 |[]=>none
 |[a]=>r.e c a
 |a::b::rs=>(r.e c a).bind λma=>(BY op (b::rs)).map λmb=>match op with
  |.And=>.dC ma mb
  |.Or=>.gX ma mb
def BZ(op:BoolOp):List Expr->Option ME
 |[]=>none
 |[a]=>r.t c a
 |a::b::rs=>(r.t c a).bind λma=>(BZ op (b::rs)).map λmb=>match op with
  |.And=>.dC ma mb
  |.Or=>.gX ma mb
def Kg:List Expr->Option ME
 |[]=>some .no
 |[e]=>r.t c e
 |_=>none
def p9:List Stmt->Option MS
 |[]=>some .pass
 |s::rs=>(r.s c s).bind λm=>(p9 rs).map λms=>.seq m ms
def Cq(x:Str):Option ME :=
 if T9 x then(if c.oZ x then(c.idx x).map .var else if c.gl x then((c.con.lookup x).map .lit).orElse λ_=>if c.blt.contains x then(Cn.lookup x).map λt=>.lit (.ty t) else none else none) else none
def yc(op:UnaryOp)(a:Expr):Option ME:=if op=.Not then(r.e c a).map .cO else c1 r c (.un op) a
def d6.Gn(b:Expr):Option (List D):=(asName b).bind λx=>if c.gl x&&T9 x then c.gd.lookup x else none
def vo(a:Expr)(ops:List CmpOp)(bs:List Expr):Option ME:=match ops,bs with
 |[op],[b]=>if behindInMarks op b then none else c2 r c (.cmp op) a b
 |[op,gM],[b,d]=>if lastMarks [op,gM] [b,d] then none else(r.e c a).bind λma=>(r.e c b).bind λmb=>(r.e c d).map λmd=>.chain op gM ma mb md
 |_,_=>none
def SR:Expr->Option (Option Expr×Option Expr×Option Expr)
 |.Slice lo hi st _=>some (lo,hi,st)
 |_=>none
def Dr(a:Expr):Option Expr->Option Expr->Option Expr->Option ME
 |some b,none,none=>c2 r c (.nk true false) a b
 |none,some b,none=>c2 r c (.nk false true) a b
 |_,_,_=>none
def Fg(a b:Expr):Option ME:=((SR b).bind λq=>Dr r c a q.1 q.2.1 q.2.2).orElse λ_=>if fR b then((c.Gn a).bind λkvs=>(r.e c b).map λmb=>.prim .lX (.cons (.lit (.tup kvs)) (.cons mb .nil))).orElse λ_=>c2 r c .ix a b else none
def Dq(x:Str)(e:Expr):Option ME:=(uZ e).bind λq =>
 if x="list" && q.1="range" && c.blt.contains "list" && c.blt.contains "range" && c.gl "range" then (match q.2 with
  |[a]=>if fR a then c1 r c .lI a else none
  |[a,b]=>if fR a&&fR b then c2 r c .lH a b else none
  | _=>none)
 else if x="sorted" && q.1="set" && c.blt.contains "sorted" && c.blt.contains "set" && c.gl "set" then (match q.2 with
  |[a]=>if fR a then c1 r c .sset a else none
  | _=>none)
 else if x="len" && q.1="set" && c.blt.contains "len" && c.blt.contains "set" && c.gl "set" then (match q.2 with
  |[a]=>if fR a then c1 r c .Z1 a else none
  | _=>none)
 else none
def UB(x:Str)(e:Expr):List Expr->Option ME
 |[]=>Dq r c x e
 |_=>none
def CO(x:Str):Option ME:=if T9 x&&c.gl x then((c.fns.lookup x).map λf=>.call f .nil).orElse λ_=>(c.cls.lookup x).map λf=>.make x f .nil else none
def CP(x:Str)(e:Expr)(es:List Expr):Option ME:=if T9 x&&c.gl x then(UB r c x e es).orElse λ_=>(J1 r c (e::es)).bind λms=>((c.fns.lookup x).map λf=>.call f ms).orElse λ_=>((c.cls.lookup x).map λf=>.make x f ms).orElse λ_=>if c.blt.contains x then(Cs.lookup x).map λp=>.prim p ms else none else none
def Iz(x:Str):List Expr->Option ME
 |[]=>CO c x
 |e::es=>CP r c x e es
def d6.meths(m:Str):List (Str×Nat):=(c.my.filter λy=>decide (y.1=m)).map (·.2)
def CQ(o:Expr)(m:Str)(apos pos:Pos)(args:List Expr):Option ME :=
 if rY o && (apos.endLine == pos.line) && decide (args.length < 20) then (r.e c o).bind λmo=>(J1 r c args).bind λms=>if m="index" then (if args.isEmpty then none else some (.dI .index mo ms)) else if decide (m="pop") && FL o && !args.isEmpty then some (.dI .ir mo ms) else if args.isEmpty && (vc.lookup m).isSome then (vc.lookup m).map λp=>.dI p mo ms else (match CA.lookup m with
  |some p=>if args.isEmpty then none else some (.dI p mo ms)
  | none=>some (.bo m (c.meths m) mo ms)) else none
def Cp(f:Expr)(args:List Expr)(iE:List Keyword)(pos:Pos):Option ME:=if iE.isEmpty then(match f with
 |.Name x _=>Iz r c x args
 |.Attribute o m apos=>CQ r c o m apos pos args
 | _=>none) else none
def xH(tg e:Expr):Option ME:=(((uZ e).bind λq =>
  if q.1="enumerate" then (match q.2 with
   |[a]=>if c.gl "enumerate"&&c.blt.contains "enumerate"&&fR a&&Fq tg then(r.e c a).map .jQ else none
   | _=>none)
  else if q.1="reversed" then (match q.2 with
   |[a]=>if c.gl "reversed"&&c.blt.contains "reversed"&&fR a then(r.e c a).map .mB else none
   | _=>none)
  else if q.1="range" then (match q.2 with
   |[a]=>if c.gl "range"&&c.blt.contains "range"&&fR a then(r.e c a).map .fk else none
   |[a,b]=>if c.gl "range"&&c.blt.contains "range"&&fR a&&fR b then(r.e c a).bind λma=>(r.e c b).map λmb=>.ja ma mb else none
   | _=>none)
  else none):Option ME).orElse λ_=>if fR e then (r.e c e).map .eN else none
def qm(elt:Expr)(gens:List Comprehension)(sc:Scope):Option ME:=match gens with
 |[⟨tg,it,ifs,oo⟩]=>if c.vh sc&&decide (oo=0)&&fR it then((c.inner sc).tg tg).bind λt=>(xH r c tg it).bind λmi=>(Kg r (c.inner sc) ifs).bind λmc=>(r.e (c.inner sc) elt).map λme=>.comp (c.c7 sc) (frees sc++locals sc).length t mi mc me else none
 |_=>none
def Gh:Expr->Option Str
 |.Name x _=>some x
 |_=>none
def SQ:Expr->Option (Expr×List Comprehension×Scope)
 |.SetComp elt gens sc _=>some (elt,gens,sc)
 |_=>none
def Uy:ME->Option ME
 |.comp a n t i k e=>some (.gp a n t i k e)
 |_=>none
def yd(f:Expr)(args:List Expr)(iE:List Keyword):Option ME:=match args with
 |[a]=>if iE.isEmpty&&decide (Gh f=some "sorted")&&c.gl "sorted"&&c.blt.contains "sorted" then(SQ a).bind λq=>(qm r c q.1 q.2.1 q.2.2).bind Uy else none
 |_=>none
def vN(f:Expr)(args:List Expr)(iE:List Keyword):Option ME:=(λ(_:d6)=>none) c
def CZ(es:List Expr)(k:Nat):Option ME:=if c.la&&decide (k=0) then(match es with
 |[.Constant (.int i) _ _]=>some (.prim (.jn i) .nil)
 | _=>none) else none
def Gg:Expr->Option (Expr×List Expr×List Keyword×Pos)
 |.Call f a k p=>some (f,a,k,p)
 |_=>none
def Fp:Expr->Option (Expr×Str×Pos)
 |.Attribute o m p=>some (o,m,p)
 |_=>none
def SO:Expr->Option (Expr×List CmpOp×List Expr)
 |.Compare a ops bs _=>some (a,ops,bs)
 |_=>none
def AE:Expr->Option (List Expr)
 |.Tuple es _ _=>some es
 |_=>none
def d6.Y5(c:d6)(e:Expr)(i:Nat):Bool:=((Gh e).map λx=>T9 x&&c.oZ x&&decide (c.idx x=some i)).getD false
def Dt(c:d6):List Expr->Bool
 |[b]=>c.Y5 b 3
 |_=>false
def Ds(c:d6):List Expr->Bool
 |[e]=>((SO e).map λq=>decide (q.2.1=[.NotIn])&&c.Y5 q.1 0&&Dt c q.2.2).getD false
 |_=>false
def yf(kx vx:Expr)(gens:List Comprehension)(sc:Scope):Option ME:=match gens with
 |[⟨tg,it,ifs,oo⟩]=>if c.vh sc&&decide (oo=0)&&decide ((frees sc++locals sc).length=4)&&(c.inner sc).Y5 kx 2&&(c.inner sc).Y5 vx 3&&Ds (c.inner sc) ifs then
   (Gg it).bind λq=>(Fp q.1).bind λw=>if q.2.1.isEmpty&&q.2.2.1.isEmpty&&decide (w.2.1="items")&&rY w.1&&(w.2.2.endLine==q.2.2.2.line) then
    (AE tg).bind λes=>if decide ((c.inner sc).slots es=some [2,3]) then (match c.c7 sc with
     |[j]=>(r.e c w.1).map λmo=>.prim .lY (.cons mo (.cons (.var j) .nil))
     | _=>none) else none else none else none
 |_=>none
def FT:Expr->Option ME
 |.Name x _=>Cq c x
 |.Constant k _ _=>(qh k).map .lit
 |.BinOp a op b _=>c2 r c (.bin op) a b
 |.UnaryOp op a _=>yc r c op a
 |.Compare a ops bs _=>vo r c a ops bs
 |.BoolOp op vs _=>BY r c op vs
 |.IfExp t a b _=>(r.t c t).bind λmt=>(r.e c a).bind λma=>(r.e c b).map λmb=>.ite mt ma mb
 |.Tuple es _ _=>(J1 r c es).map (.prim .tup)
 |.List es _=>(J1 r c es).map (.prim .lst)
 |.Subscript a b _=>Fg r c a b
 |.Dict ks vs _=>if ks.isEmpty&&vs.isEmpty then some (.prim .R7 .nil) else if decide (ks.length<=15) then(xF r c ks vs).map .mR else none
 |.Attribute o f _=>if rY o then c1 r c (.fld f) o else none
 |.Call f args iE pos=>(yd r c f args iE).orElse λ_=>(vN c f args iE).orElse λ_=>Cp r c f args iE pos
 |.ListComp elt gens sc _=>qm r c elt gens sc
 |.Set es k _=>CZ c es k
 |_=>none
def stepT:Expr->Option ME
 |.UnaryOp op a _=>if op=.Not then(r.t c a).map .cO else none
 |.BoolOp op vs _=>BZ r c op vs
 |.Compare a ops bs _=>(vo r c a ops bs).map .dQ
 |e=>if BB e then(r.e c e).map .dQ else none
def Fw:Expr->Option ME
 |.Constant k _ _=>(qh k).map .lit
 |_=>none
def Ct:List Expr->Option ME
 |[]=>some .nil
 |e::es=>(Fw e).bind λm=>(Ct es).map λms=>.cons m ms
def Fv:Expr->Option ME
 |.List es _=>(Ct es).map (.prim .lst)
 |.Constant k _ _=>(qh k).map .lit
 |_=>none
def UH:List Stmt->Option Expr
 | [s]=>(match s with
  |.Return e _=>e
  | _=>none)
 |_=>none
def Kc:ExceptHandler->Option (Str×Expr)
 |.ExceptHandler t n b _=>if n.isNone then t.bind λt=>(asName t).bind λy=>(UH b).map λe=>(y,e) else none
def xG:List ExceptHandler->Option (List (Str×ME))
 |[]=>some []
 |h::hs=>(Kc h).bind λq=>if c.exc.contains q.1&&c.gl q.1&&T9 q.1 then(Fv q.2).bind λm=>(xG hs).map λms=>(q.1,m)::ms else none
def IA(e f:Option Expr):Option (Str×Expr×List Expr):=if f.isNone then e.bind λe=>(uZ e).bind λq=>q.2.head?.map λa=>(q.1,a,q.2.tail) else none
def d6.xy(f:Str):List Str:=(c.mP.filter λy=>decide (y.1=f)).map (·.2)
def Cr:List Expr->Option (Expr×Expr×Expr×Expr)
 |_=>none
def UC(e:Expr):Option ME:=match e with
 |.DictComp kx vx gens sc _=>yf r c kx vx gens sc
 |e=>r.e c e
def Kd{α:Type}:List α->Option α
 |[x]=>some x
 |_=>none
def ye(kx vx:Expr)(gens:List Comprehension)(sc:Scope):Option ME:=match gens with
 |[⟨tg,it,ifs,oo⟩]=>if c.vh sc&&decide (oo=0)&&decide ((frees sc++locals sc).length=3)&&(c.inner sc).Y5 kx 2&&(c.inner sc).Y5 vx 1&&ifs.isEmpty&&(c.c7 sc).isEmpty then
   (uZ it).bind λq=>(Kd q.2).bind λa=>(AE tg).bind λes=>if decide (q.1="enumerate")&&c.gl "enumerate"&&c.blt.contains "enumerate"&&fR a&&decide ((c.inner sc).slots es=some [1,2]) then(r.e c a).map λma=>.prim .kL (.cons ma .nil) else none else none
 |_=>none
def yg(e:Expr):Option ME:=match e with
 |.DictComp kx vx gens sc _=>ye r c kx vx gens sc
 |_=>none
def GB(tg e:Expr):Option MS:=match tg with
 |.Name x _=>if c.t8 x then(c.idx x).bind λi=>((r.e c e).orElse λ_=>yg r c e).map λm=>.set i m else none
 |.Tuple es _ _=>(Cr es).elim (if rP e&&w9 e then(c.slots es).bind λis=>(r.e c e).map λm=>.mr (.many is) m else none) λq=>if w9 e&&fR q.2.1&&fR q.2.2.2 then(r.e c q.1).bind λm1=>(r.e c q.2.1).bind λn1=>(r.e c q.2.2.1).bind λm2=>(r.e c q.2.2.2).bind λn2=>(r.e c e).map λm=>.vR m1 n1 m2 n2 m else none
 |.Subscript o i _=>if fR i&&w9 e then(r.e c o).bind λmo=>(r.e c i).bind λmi=>(r.e c e).map λm=>.cN mo mi m else none
 |.Attribute o f _=>(r.e c o).bind λmo=>(UC r c e).map λm=>.fC f (c.xy f) mo m
 |_=>none
def Ft:Operator->Option Pr
 |.Add=>some .iadd
 |.Sub=>some .nv
 |_=>none
def toR(e:Expr)(m:ME):ME:=(λ(_:d6)=>m) c
def FU:Stmt->Option MS
 |.Expr e _=>if w9 e then(r.e c e).map .expr else none
 | .Assign yj e _=>(match yj with
  |[tg]=>GB r c tg e
  | _=>none)
 | .AugAssign tg op e _=>(match tg with
  |.Attribute o f _=>if decide (op=.Add) then(r.e c o).bind λmo=>(r.e c e).map λm=>.jx f (c.xy f) mo m else none
  |.Name x _=>if c.t8 x then(Ft op).bind λp=>(c.idx x).bind λi=>(r.e c e).map λm=>.jw i p m else none
  | _=>none)
 |.If t a b _=>(r.t c t).bind λmt=>(p9 r c a).bind λma=>(p9 r c b).map λmb=>.ifs mt ma mb
 |.For tg it body nN _=>if c.la&&(nN.isEmpty&&fR it) then(c.tg tg).bind λt=>(xH r c tg it).bind λmi=>(p9 r c body).map λmb=>.eF t mi mb else none
 |.While t body nN _=>if c.la&&nN.isEmpty then(r.t c t).bind λmt=>(p9 r c body).map λmb=>.iU mt mb else none
 | .Return e _=>(match e with
  |some e=>(r.e c e).map λm=>.ret (toR c e m)
  | none=>some .pq)
 |.Pass _=>some .pass
 |.Raise e f _=>(IA e f).bind λq=>if c.iW&&c.exc.contains q.1&&c.gl q.1&&T9 q.1 then(J1 r c (q.2.1::q.2.2)).map (.raise q.1) else none
 |.Try body hs el fi _=>if c.iC&&!hs.isEmpty&&el.isEmpty&&fi.isEmpty then(p9 r { c with iW:=false,iC:=false,wr:=true } body).bind λmb=>(xG c hs).map λms=>.nU mb ms else none
 |_=>none
end
def comp:Nat->CF
 |0=>⟨λ_ _=>none,λ_ _=>none,λ_ _=>none⟩
 |n+1=>⟨FT (comp n),stepT (comp n),λc s=>(FU (comp n) c s).orElse λ_=>some (.expr .no)⟩
structure gx(X:Cx)(c:d6)(P:eB)(Ξ:gJ):Prop where
 N:X.N=c.N
 nd:c.N.Nodup
 loc:∀x,c.nm.lookup x=some .local->X.env.scope.names.lookup x=some .local
 wG:∀x,c.nm.lookup x=some .cell->X.env.scope.names.lookup x=some .cell
 Af:∀x,c.nm.lookup x=some .free->X.env.scope.names.lookup x=some .cell\/X.env.scope.names.lookup x=some .free
 EI:∀x,c.nm.lookup x=some .globalImplicit->X.env.scope.names.lookup x=some .globalImplicit
 cells:∀x,(c.nm.lookup x=some .cell\/c.nm.lookup x=some .free)->∃a,X.env.cells.lookup x=some a
 la:∀x,c.nm.lookup x=some .cell->X.fn x=true
 calm:X.calm=true
 units:X.A.units+100<cLine
 own:c.la=true->PassesOwn (model X.prog X.w) X.A X.env X.xe
 mono:f9 P
 con:∀x d,c.con.lookup x=some d->∃v u,X.mg x=some u/\RelV v u/\∀ρ H,d0 X.K ρ H d v
 blt:∀x,c.blt.contains x=true->X.mg x=none
 fns:∀x f,c.fns.lookup x=some f->∃k fa fd ps,mT X P Ξ.1 k f fa fd ps/\m9 k X.A/\X.mg x=some (.ref fa)/\PySem.W.keepIn X.K (.ref fa)=true
 cls:∀x f,c.cls.lookup x=some f->∃k C fa fd ps,mT X P Ξ.1 k f fa fd ps/\m9 (k+1) X.A/\X.mg x=some (.ref C)/\l5 X.K x C/\iz X.K C/\Mk X.K C fa
 my:∀m y f C,(m,y,f)∈c.my->l5 X.K y C->∃k fa fd ps,Meth X.K C m fa/\mT X P Ξ.1 k f fa fd ps/\m9 k X.A
 mP:∀f y C,(f,y)∈c.mP->l5 X.K y C->u6 X.K C f
 wC:Ξ.1=c.exc
 pass:Passes (gw X.prog X.w) X Ξ.2
 iW:c.iW=true->wU X Ξ.2
 iC:c.iC=true->X.stack=X.env::X.outer/\X.env.frame=some X.env.locals/\uO X Ξ.2
 exc:∀x,c.exc.contains x=true->∃C,X.mg x=some (.ref C)/\l5 X.K x C/\∃B newId fV bm,OwnCls x C bm newId X.mg X.base/\ExcBaseFacts B newId fV bm
 Aj:∀x y C C',c.exc.contains x=true->c.exc.contains y=true->l5 X.K x C->l5 X.K y C'->PySem.W.exmOne X.K (.ref C) (.ref C')=some (decide (x=y\/y="MintError"))
 Ac:∀x kvs,c.gd.lookup x=some kvs->Fi X x kvs
 code:c.la=true->PySem.W.kdsCode X.K X.env.code=true
 sgn:c.wr=true->X.sg=none
theorem Pn(h:c.idx x=some i):c.N[i]?=some x:=by
 unfold d6.idx at h;rw[jB] at h;obtain⟨h1,h2,_⟩:=h;rw[ak h1,aQ h2]
theorem gx.FZ(C:gx X c P Ξ)(h:c.oZ x=true):vp X.env.scope x:=by
 unfold d6.oZ at h;split at h
 ·rename_i e;exact .inl (C.loc x e)
 ·rename_i e;exact .inr (.inl (C.wG x e))
 ·rename_i e;rcases C.Af x e with z|z
  ·exact .inr (.inl z)
  ·exact .inr (.inr z)
 ·cases h
theorem gx.u9(C:gx X c P Ξ)(h:c.gl x=true):Gl X x:=C.EI x (aQ h)
theorem gx.t8(C:gx X c P Ξ){x:Str}(h:c.t8 x=true):Loc X.env.scope x/\(X.fn x=true\/X.env.scope.names.lookup x=some .local):=by
 unfold d6.t8 at h;rw[et] at h;rcases h with h|h
 ·have:=C.loc x (aQ h);exact⟨.inl this,.inr this⟩
 ·exact⟨.inr (C.wG x (aQ h)),.inl (C.la x (aQ h))⟩
theorem gx.nT(C:gx X c P Ξ)(h:c.idx x=some i):X.N[i]?=some x:=by rw[C.N];exact Pn h
theorem gx.nu(C:gx X c P Ξ)(hw:c.wr=true):X.Nd:=⟨by rw[C.N];exact C.nd,C.sgn hw⟩
theorem BE(h:asName e=some x):∃p,e=.Name x p:=by
 cases e<;>first|(cases h;exact⟨_,rfl⟩)|cases h
theorem JO(h:c.slot e=some i):∃x p,e=.Name x p/\c.t8 x=true/\c.idx x=some i:=by
 obtain⟨x,hx,h2⟩:=ag.mp h;obtain⟨p,rfl⟩:=BE hx;split at h2
 ·exact⟨x,p,rfl,by assumption,h2⟩
 ·cases h2
theorem gx.slots(C:gx X c P Ξ):∀{es:List Expr} {is:List Nat},c.slots es=some is->fh X es is:=by
 intro es
 induction es with
 |nil=>intro is h;cases h;exact .nil
 |cons e r ih =>
  intro is h;obtain⟨i,hi,h⟩:=ag.mp h;obtain⟨is',hs,rfl⟩:=aa.mp h;obtain⟨x,p,rfl,hl,hx⟩:=JO hi;exact .cons (C.nT hx) (C.t8 hl).1 (C.t8 hl).2 (ih hs)
theorem orElse_some{α:Type}{a:Option α}{b:Unit->Option α}{m:α}(h:a.orElse b=some m):a=some m\/b Unit.unit=some m:=by
 cases a with
 |none=>exact .inr h
 |some x=>exact .inl h
theorem gx.Fe(C:gx X c P Ξ)(hw:c.wr=true){tg:Expr}{t:MT}(h:c.tg tg=some t):PG X tg (LG X.K t):=by
 rcases orElse_some h with h|h
 ·obtain⟨i,hi,rfl⟩:=aa.mp h;obtain⟨x,p,rfl,hl,hx⟩:=JO hi;exact Om (C.nu hw) (C.nT hx) (C.t8 hl).1 (C.t8 hl).2
 ·cases tg<;>first|(cases h;done)|skip
  obtain⟨is,hs,rfl⟩:=aa.mp (show(c.slots _).map MT.many=some t from h);exact Jm C.calm (C.nu hw) (C.slots hs)
theorem i9(h:fR e=true):starEach (e::es) env=(false,eval e env)::starEach es env:=by
 cases e<;>first|rfl|cases h
theorem xp(h:fR e=true):∀x,foldedSetIterable e env x=pure x:=by
 intro x;cases e<;>first|rfl|cases h
theorem Ko(h:fR e=true):AN e:=by
 intro o i;cases e<;>first|rfl|cases h
theorem PZ{i:Expr}{tp:Pos}(h:fR i=true):∀v,assign (.Subscript o i tp) env v=(do
      let ov <- holding [v] (eval o env)
      let iv <- holding [v,ov] (eval i env)
      standAt tp
      holding [v,ov,iv] (setItem ov iv v)
      release [v,ov,iv] []):=by
  intro v;cases i<;>first|rfl|cases h
theorem Bz{t:Option Expr}(h:w9 e=true):swapsWith e t n env=pure false:=by
 cases e<;>first|rfl|cases h
theorem Se{k:Nat}{p:Pos}(h:rP e=true):swappedStores [.Tuple es k p] e env=pure none:=by
 cases e<;>first|rfl|cases h
theorem a06(h:BB e=true):∀whole,isTrue e env whole=(do let v <- whole;standAt e.pos;holding [v] (truthy v)):=by
 intro w;cases e<;>first|rfl|cases h
theorem P6{q:Str×List Expr}(h:uZ e=some q):∃p pos,e=.Call (.Name q.1 p) q.2 [] pos:=by
 cases e<;>first|(cases h;done)|skip
 rename_i f as iE pos;cases f<;>first|(cases h;done)|skip
 cases iE<;>first|(cases h;done)|skip
 cases h;exact⟨_,_,rfl⟩
theorem WE{f:Expr}{a:List Expr}{k:List Keyword}{p:Pos}(h:Gg e=some (f,a,k,p)):e=.Call f a k p:=by
 cases e<;>cases h
 rfl
theorem OY{m:Str}{p:Pos}(h:Fp e=some (o,m,p)):e=.Attribute o m p:=by
 cases e<;>cases h
 rfl
theorem Ke(h:AE e=some es):∃k p,e=.Tuple es k p:=by
 cases e with
 |Tuple wD k p=>cases h;exact⟨k,p,rfl⟩
 |_=>cases h
theorem a61(h:Fq e=true):∃es k p,e=.Tuple es k p:=by
 cases e<;>first|exact⟨_,_,_,rfl⟩|cases h
theorem RI{kvs:List D}(h:c.Gn b=some kvs):∃x p,b=.Name x p/\c.gl x=true/\T9 x=true/\c.gd.lookup x=some kvs:=by
 obtain⟨x,hx,h2⟩:=ag.mp h;obtain⟨p,rfl⟩:=BE hx;split at h2
 ·rename_i hc;rw[aT] at hc;exact⟨x,p,rfl,hc.1,hc.2,h2⟩
 ·cases h2
theorem E1{f:Str}(h:rY o=true):attributeBase o f env (eval o env)=eval o env:=by
 cases o<;>first|rfl|skip
 rename_i f as iE pos;cases f<;>first|rfl|skip
 cases as with
 |nil=>cases h
 |cons=>rfl
theorem AU{env:Env}:∀(names:List (Str×NameKind)) (acc:List (Str×Addr)),(∀y∈names,y.2=.free->∃a,env.cells.lookup y.1=some a)->(∀x a,acc.lookup x=some a->env.cells.lookup x=some a) ->
  ∃ cl,(forIn names acc λ(y:Str × NameKind) (cs:List (Str × Addr))=>(match y with
   |(name,kind)=>if(kind==NameKind.free)=true then do
     let __do_lift <- cellOf env name
     pure (ForInStep.yield ((name,__do_lift)::cs))
    else pure (ForInStep.yield cs):Sem (ForInStep (List (Str × Addr)))))=pure cl/\(∀ x a,cl.lookup x=some a->env.cells.lookup x=some a)/\(∀ y ∈ names,y.2=.free->∃ a,cl.lookup y.1=some a)/\∀ x a,acc.lookup x=some a->∃ a',cl.lookup x=some a'
 |[],acc,_,h2=>⟨acc,rfl,h2,λy hy=>absurd hy (by simp),λx a h=>⟨a,h⟩⟩
 |(n,k)::r,acc,h1,h2=>by
  rw[List.forIn_cons];by_cases hk:k=.free
  ·subst hk;obtain⟨a,ha⟩:=h1 (n,.free) (by simp) rfl;have hc:cellOf env n=pure a:=by unfold cellOf;rw[ha]
   obtain ⟨cl,e,q1,q2,q3⟩:=AU r ((n,a) :: acc) (λy hy=>h1 y (by simp [hy])) (λx b hb=>by
    rw[cZ] at hb;cases hx:x==n with
    |true=>simp_all
    | false=>rw [hx] at hb;exact h2 x b hb)
   refine⟨cl,?_,q1,λy hy hf=>?_,λx b hb=>?_⟩
   ·simp only[beq_self_eq_true,if_true,hc];exact e
   ·rcases aC.mp hy with z|z
    ·subst z;exact q3 n a (by simp)
    ·exact q2 y z hf
   ·cases hx:x==n with
    |true=>exact q3 x a (by rw[cZ,hx])
    |false=>exact q3 x b (by rw[cZ,hx];exact hb)
  ·have hb:(k==NameKind.free)=false:=by simpa using hk
   obtain⟨cl,e,q1,q2,q3⟩:=AU r acc (λy hy=>h1 y (by simp[hy])) h2;refine⟨cl,?_,q1,λy hy hf=>?_,q3⟩
   ·simp only[hb,Bool.false_eq_true,if_false];exact e
   ·rcases aC.mp hy with z|z
    ·simp_all
    ·exact q2 y z hf
theorem a14{P:Program}{w:World}:Passes (gw P w) X (λ_ _ _=>False):=λ_ _ _ _ _ _ _ h=>by
 obtain⟨_,_,_,_,_,_,_,z⟩:=h;exact z.elim
theorem R9{env:Env}:∀{names:List (Str×NameKind)} {x:Str},names.lookup x=some .globalImplicit ->
  (names.map λ(n,k)=>if(k==NameKind.free&&env.scope.kind==.function&&env.kindOf n==some .cell) then(n,NameKind.cell) else(n,k)).lookup x=some .globalImplicit
 |[],_,h=>by simp at h
 |(n,k)::r,x,h=>by
  have ih:=@R9 env r x;show List.lookup x ((if(k==NameKind.free&&env.scope.kind==.function&&env.kindOf n==some .cell)=true then(n,NameKind.cell) else(n,k))::_)=_;cases hx:x==n with
  |true =>
   simp only[List.lookup_cons,hx] at h;cases h;simp[List.lookup_cons,hx]
  |false =>
   simp only[List.lookup_cons,hx] at h;by_cases hc:(k==NameKind.free&&env.scope.kind==.function&&env.kindOf n==some .cell)=true
   ·rw[aN hc];simp only[List.lookup_cons,hx];exact ih h
   ·rw[aG hc];simp only[List.lookup_cons,hx];exact ih h
theorem gx.comp(C:gx X c P Ξ)(h:c.vh sc=true):∃cl,cj X sc (frees sc++locals sc) (c.c7 sc) cl/\∀pins A s H fp,gx (c8 X pins sc (frees sc++locals sc) cl A s H fp) (c.inner sc) P (mS Ξ.1):=by
 unfold d6.vh at h;simp only[Bool.and_eq_true,decide_eq_true_eq,List.all_eq_true] at h;obtain⟨⟨⟨⟨h1,h2⟩,h3⟩,h4⟩,h5⟩:=h;have fr:∀x∈frees sc,(∃i,c.idx x=some i)/\sc.names.lookup x=some .free/\(c.nm.lookup x=some .cell\/c.nm.lookup x=some .free):=λx hx=>by
  have:=h5 x hx;rw[dY,et] at this;simp only[decide_eq_true_eq] at this;exact⟨this.1.1,this.1.2,this.2⟩
 have pW:∀y∈sc.names,y.2=.free->∃a,X.env.cells.lookup y.1=some a:=λy hy hf=>by
  have hm:y.1∈frees sc:=aE.mpr ⟨y,bg.mpr ⟨hy,by simp[hf]⟩,rfl⟩;exact C.cells y.1 (fr y.1 hm).2.2
 obtain⟨cl,e,q1,q2,_⟩:=AU sc.names [] pW (λx a h=>by simp at h);have h2:∀y∈sc.names,y.2=.cell->sc.names.lookup y.1=some .cell:=λy hy hl=>by
  have:=h2 y hy
  simp_all
 refine⟨cl,⟨h1,h2,λy hy hl=>?_,?_,q1,λx hx=>q2 (x,.free) (aL hx) rfl,h4,λi j kf=>?_,?_⟩,λpins A s H fp=>?_⟩
 ·grind
 ·simp only[closureFor];rw[e]
  rfl
 ·unfold d6.c7 at kf;rw[ah] at kf;cases ex:(frees sc)[i]? with
  |none=>simp_all
  |some x =>
   rw[ex] at kf;have hx:x∈frees sc:=aO ex;obtain⟨⟨k,hk⟩,hl,hc⟩:=fr x hx;have hj:k=j:=by
    have:=aD kf;dsimp only at this;rw[hk] at this;exact this
   subst hj;refine⟨x,?_,C.nT hk,hl,?_⟩
   ·rw[aI (ao.mp ex).1];exact ex
   ·rcases hc with z|z
    ·exact .inl (C.wG x z)
    ·exact C.Af x z
 ·unfold d6.c7;simp
 ·refine⟨rfl,h4,λx hx=>lookup_relabel_local hx,λx hx=>?_,λx hx=>E2 hx,λx hx=>R9 hx,λx hx=>?_,λx _=>?_,rfl,C.units,(λ_=>PassesOwn.never),C.mono,C.con,C.blt,C.fns,C.cls,C.my,C.mP,C.wC,a14,(λz=>by cases z),(λz=>by cases z),C.exc,C.Aj,C.Ac,(λz=>by cases z),λ_=>rfl⟩
  ·exact M7 hx
  ·rcases hx with hx|hx
   ·exact GD (.inl hx)
   ·exact GD (.inr (q2 (x,.free) (aL hx) rfl))
  ·exact aH ‹_›
theorem L0(h:T9 x=true):(x==("__debug__":Str))=false/\(x==("__classdict__":Str))=false/\x≠"__name__":=by
 unfold T9 at h;simp only[Bool.and_eq_true,decide_eq_true_eq,beq_iff_eq] at h;exact⟨h.1.1,h.1.2,h.2⟩
theorem a74{t:String}(h:Cn.lookup x=some t):bootBuiltins x=some (.type t):=by
 have hm:=aL h;simp only[Cn,List.mem_cons,List.mem_nil_iff,or_false] at hm;rcases hm with z|z|z|z|z<;>(cases z;first|exact vI|exact PyProof.Rows.boot_bool|exact PyProof.Rows.boot_str|exact PyProof.Rows.boot_tuple|exact su|decide +kernel|rfl)
theorem a59(hc:X.calm=true)(hu:X.A.units+100<cLine)(h:Cs.lookup x=some p):∃v,((∃id,v=.builtin id)\/∃T,v=.type T)/\bootBuiltins x=some v/\j8 X v (rN X.K p):=by
 have hm:=aL h;simp only[Cs,List.mem_cons,List.mem_nil_iff,or_false] at hm;rcases hm with z|z|z|z|z|z|z|z
 ·cases z;exact⟨.builtin "len",.inl ⟨_,rfl⟩,PySem.boot_len,Xc⟩
 ·cases z;exact⟨.type "list",.inr ⟨_,rfl⟩,by first|exact su|decide +kernel,PJ hc⟩
 ·cases z;exact⟨.builtin "isinstance",.inl ⟨_,rfl⟩,by first|exact PyProof.Rows.boot_isinstance|decide +kernel,Pt⟩
 ·cases z;exact⟨.builtin "all",.inl ⟨_,rfl⟩,by first|exact PyProof.Rows.boot_all|decide +kernel,WC hc⟩
 ·cases z;exact⟨.type "int",.inr ⟨_,rfl⟩,by first|exact vI|decide +kernel,WT⟩
 ·cases z;exact⟨.builtin "sorted",.inl ⟨_,rfl⟩,by first|exact PyProof.Rows.boot_sorted|decide +kernel,a85 hc⟩
 ·cases z;exact⟨.builtin "sum",.inl ⟨_,rfl⟩,by first|exact PyProof.Rows.boot_sum|decide +kernel,OA hc⟩
 ·cases z;exact⟨.type "set",.inr ⟨_,rfl⟩,by first|exact PyProof.Rows.boot_set|decide +kernel,PD hc⟩
theorem YX(h:vc.lookup x=some p):∃T id,PlainAttrs T/\Slot T x id/\typeOf (.builtin id)=pure (.type "method_descriptor")/\kn X id (rM X.K p) /\
  ∀{d:D} {v:V} {g:G} {ρ:List Addr} {H:Hp},Rl X.K ρ g H->d0 X.K ρ H d v->kY p d g->mx X.K T v H:=by
 have hm:=aL h;simp only[vc,List.mem_cons,List.mem_nil_iff,or_false] at hm;rcases hm with z|z
 ·cases z;exact⟨_,_,eA,PySem.F.slot_list_clear,PySem.F.type_list_clear,Rv,λR r h=>ty_list R r h⟩
 ·cases z;exact⟨_,_,eA,vG,vF,Qr,λR r h=>ty_list R r h⟩
theorem a28(hu:X.A.units+100<cLine)(h:CA.lookup x=some p):∃T id,PlainAttrs T/\Slot T x id/\typeOf (.builtin id)=pure (.type "method_descriptor")/\kn X id (rM X.K p) /\
  ∀{d:D} {v:V} {g:G} {ρ:List Addr} {H:Hp},Rl X.K ρ g H->d0 X.K ρ H d v->kY p d g->mx X.K T v H:=by
 have hm:=aL h;simp only[CA,List.mem_cons,List.mem_nil_iff,or_false] at hm;rcases hm with z|z|z
 ·cases z;exact⟨_,_,eA,PySem.F.slot_list_append,PySem.F.type_list_append,a65,λR r h=>ty_list R r h⟩
 ·cases z;exact⟨_,_,eA,vG,vF,Sw,λR r h=>ty_list R r h⟩
 ·cases z;exact⟨_,_,PySem.F.plainAttrs_set,PySem.F.slot_set_add,PySem.F.type_set_add,QB,λR r h=>ty_set R r h⟩
theorem JR{pos:Pos}{env:Env}:∀{es:List Expr},(∀e∈es,fR e=true)->(backTo pos (starEach es env)).all (λx=>!x.1)=true
 |[],_=>rfl
 |e::es,h=>by
  rw[i9 (h e (by simp))];have ih:=JR (pos:=pos) (env:=env) (es:=es) λx hx=>h x (by simp[hx]);unfold backTo at ih ⊢;rw[bY,gn,ih]
  rfl
theorem M9{pos:Pos}{env:Env}:∀{es:List Expr},(∀e∈es,fR e=true)->(backTo pos (starEach es env)).any (·.1)=false
 |[],_=>rfl
 |e::es,h=>by
  rw[i9 (h e (by simp))];have ih:=M9 (pos:=pos) (env:=env) (es:=es) λx hx=>h x (by simp[hx]);unfold backTo at ih ⊢;rw[bY,gk,ih]
  rfl
theorem Be:∀{es:List Expr} {m:ME},J1 r c es=some m->∀e∈es,fR e=true:=by
 intro es
 induction es with
 |nil=>intro m _ e he;simp_all
 |cons a es ih =>
  intro m h e he;unfold J1 at h;split at h
  ·obtain⟨m1,h1,h⟩:=ag.mp h;obtain⟨m2,h2,_⟩:=aa.mp h;rcases aC.mp he with z|z
   ·rw[z];assumption
   ·exact ih h2 e z
  ·cases h
structure oS(P:eB)(r:CF):Prop where
 e:∀X c Ξ,gx X c P Ξ->∀e m,r.e c e=some m->PE X e (LE X.K Ξ (aS P m))
 t:∀X c Ξ,gx X c P Ξ->∀e m,r.t c e=some m->PT X e (LT X.K Ξ (dF P m))
 s:∀X c Ξ,gx X c P Ξ->c.wr=true->∀st m,r.s c st=some m->PS X st (LS X.K Ξ (wpS P m))
section
variable(S:oS P r)(C:gx X c P Ξ){a:Expr}
include S C
theorem uQ(h:c1 r c p a=some m):∃ma,PE X a (LE X.K Ξ (aS P ma))/\m=.prim p (.cons ma .nil):=by
 obtain⟨ma,ha,rfl⟩:=aa.mp h;exact⟨ma,S.e X c Ξ C _ _ ha,rfl⟩
theorem rS(h:c2 r c p a b=some m):∃ma mb,PE X a (LE X.K Ξ (aS P ma))/\PE X b (LE X.K Ξ (aS P mb))/\m=.prim p (.cons ma (.cons mb .nil)):=by
 obtain⟨ma,ha,h⟩:=ag.mp h;obtain⟨mb,hb,rfl⟩:=aa.mp h;exact⟨ma,mb,S.e X c Ξ C _ _ ha,S.e X c Ξ C _ _ hb,rfl⟩
theorem sX:∀{es:List Expr} {m:ME},J1 r c es=some m->PA X es (LA X.K Ξ (fc P m)):=by
 intro es
 induction es with
 |nil=>intro m h;cases h;exact E7 C.mono
 |cons a es ih =>
  intro m h;unfold J1 at h;split at h
  ·rename_i bz;obtain⟨m1,h1,h⟩:=ag.mp h;obtain⟨m2,h2,rfl⟩:=aa.mp h;exact v9 C.mono (S.e X c Ξ C _ _ h1) (ih h2) (i9 bz)
  ·cases h
theorem Lw:∀{ks:List (Option Expr)} {vs:List Expr} {m:ME},xF r c ks vs=some m->∃gL,lx X Ξ P ks vs m gL:=by
 intro ks
 induction ks with
 |nil=>intro vs m h;cases vs<;>first|(cases h;exact⟨_,.nil⟩)|cases h
 |cons k ks ih =>
  intro vs m h;cases k<;>first|(cases h;done)|skip
  cases vs<;>first|(cases h;done)|skip
  obtain⟨m1,h1,h⟩:=ag.mp h;obtain⟨m2,h2,h⟩:=ag.mp h;obtain⟨m3,h3,rfl⟩:=aa.mp h;obtain⟨gL,D⟩:=ih h3;exact⟨_,.cons (S.e X c Ξ C _ _ h1) (S.e X c Ξ C _ _ h2) D⟩
theorem Lx{op:BoolOp}:∀{vs:List Expr} {m:ME},BY r c op vs=some m->PE X (.BoolOp op vs pos) (LE X.K Ξ (aS P m)):=by
 intro vs
 induction vs with
 |nil=>intro m h;cases h
 |cons a vs ih =>
  intro m h;cases vs with
  |nil=>exact XF (S.e X c Ξ C _ _ h)
  |cons b vs =>
   obtain⟨m1,h1,h⟩:=ag.mp h;obtain⟨m2,h2,rfl⟩:=aa.mp h;cases op
   ·exact Oc C.mono (S.e X c Ξ C _ _ h1) (ih h2)
   ·exact V' C.mono (S.e X c Ξ C _ _ h1) (ih h2)
theorem Lr{op:BoolOp}:∀{vs:List Expr} {m:ME},BZ r c op vs=some m->PW X (.BoolOp op vs pos) (LT X.K Ξ (dF P m)):=by
 intro vs
 induction vs with
 |nil=>intro m h;cases h
 |cons a vs ih =>
  intro m h;cases vs with
  |nil =>
   cases op
   ·exact Qy (S.t X c Ξ C _ _ h)
   ·exact XW (S.t X c Ξ C _ _ h)
  |cons b vs =>
   obtain⟨m1,h1,h⟩:=ag.mp h;obtain⟨m2,h2,rfl⟩:=aa.mp h;cases op
   ·exact OB C.mono (S.t X c Ξ C _ _ h1) (ih h2)
   ·exact Wc C.mono (S.t X c Ξ C _ _ h1) (ih h2)
theorem Tz(h:Kg r c es=some m):iO X es (LT X.K Ξ (dF P m)):=by
 rcases es with _|⟨e,_|⟨_,_⟩⟩
 ·cases h;exact QS C.mono
 ·exact Jf (S.t X c Ξ C _ _ h)
 ·cases h
theorem rB(hw:c.wr=true):∀{Dz:List Stmt} {m:MS},p9 r c Dz=some m->iy X Dz (LS X.K Ξ (wpS P m)):=by
 intro es
 induction es with
 |nil=>intro m h;cases h;exact Ii C.mono
 |cons a es ih =>
  intro m h;obtain⟨m1,h1,h⟩:=ag.mp h;obtain⟨m2,h2,rfl⟩:=aa.mp h;exact Jn C.mono (S.s X c Ξ C hw _ _ h1) (ih h2)
end
theorem HN{t:Expr}(h:w9 e=true):swapsWithSole [t] e n env=pure false:=by
 exact Bz h
theorem gx.nU(C:gx X c P Ξ)(hw:c.wr=true)(eP:X.stack=X.env::X.outer)(hf:X.env.frame=some X.env.locals)(pins:List (Addr×Obj))(D:L2.Ends)(hs:List ExceptHandler){o:Option L2.St}{cM:L2.St}{w:Bool}(yJ:∀Z:L2.St,Z.length=X.N.length->(∀τ,o=some τ->Z=τ)->cM.length=Z.length/\∀(i:Nat) v,cM[i]?=some (some v)->Z[i]?=some (some v))(ho:w=true->o=none) :
  gx (V4 X pins (xP X pins D hs) o) { c with iW:=false,iC:=false,wr:=w } P (xC X Ξ.1 D cM hs) :=
 ⟨C.N,C.nd,C.loc,C.wG,C.Af,C.EI,C.cells,C.la,C.calm,C.units,(λ_=>PassesOwn.looking),C.mono,C.con,C.blt,C.fns,C.cls,C.my,C.mP,C.wC,Si (C.sgn hw) eP hf yJ λC H' ⟨C',e,z⟩=>(by simp_all),(λz=>by cases z),(λz=>by cases z),C.exc,C.Aj,C.Ac,C.code,ho⟩
theorem GW{m:Str}{apos:Pos}(hb:rY o=true)(hl:(apos.endLine==pos.line)=true)(hf:methodCallForm args.length (backTo pos (starEach args env)) (backToKw pos (keywordEach [] env))=true) :
  eval (.Call (.Attribute o m apos) args [] pos) env=(do
   let ov <- eval o env
   standAt apos.atName
   let (f,first) <- holding [ov] (getMethod ov m (do return (<- importBound o env).getD true))
   callWith pos f first (backTo pos (starEach args env)) (backToKw pos (keywordEach [] env))):=by
 have h1:eval (.Call (.Attribute o m apos) args [] pos) env=(do
   let ov <- attributeBase o m env (eval o env)
   standAt apos.atName
   methodCall o m apos pos env ov (args.length + 0) (backTo pos (starEach args env)) (backToKw pos (keywordEach [] env))):=rfl
 rw[h1,E1 hb];have h2:∀ ov,methodCall o m apos pos env ov (args.length + 0) (backTo pos (starEach args env)) (backToKw pos (keywordEach [] env))=(do
   let (f,first) <- holding [ov] (getMethod ov m (do return (<- importBound o env).getD true))
   callWith pos f first (backTo pos (starEach args env)) (backToKw pos (keywordEach [] env))):=λov=>by
  unfold methodCall calleeOf methodCallPos
  simp_all
 simp only[h2]
section
variable(S:oS P r)(C:gx X c P Ξ){a d:Expr}
include C
theorem Xj(h:Cq c x=some m):PE X (.Name x pos) (LE X.K Ξ (aS P m)):=by
 unfold Cq at h;split at h
 ·rename_i gz;obtain⟨d1,d2,d3⟩:=L0 gz;split at h
  ·rename_i hv;obtain⟨i,hi,rfl⟩:=aa.mp h;exact Oj (C.nT hi) (C.FZ hv) d1 d2
  ·split at h
   ·rename_i hg;rcases orElse_some h with h|h
    ·obtain⟨d,hd,rfl⟩:=aa.mp h;obtain⟨v,u,hm,r,rr⟩:=C.con x d hd;exact Z9 (IY (C.u9 hg) hm r d1) rr
    ·split at h
     ·rename_i hb;obtain⟨t,ht,rfl⟩:=aa.mp h;exact Z9 (v:=.ty t) (Qj (C.u9 hg) (C.blt x hb) (a74 ht) rfl d3 d1) λ_ _=>.ty t
     ·cases h
   ·cases h
 ·cases h
omit C in
theorem yx{k:Const}{j:Nat}{d:D}(h:qh k=some d):PE X (.Constant k j pos) (LE X.K Ξ (aS P (.lit d))):=by
 cases k<;>first|(cases h;done)|skip
 ·cases h;exact Z9 XD λ_ _=>.bc
 ·cases h;exact Z9 VL λ_ _=>.bl _
 ·cases h;exact Z9 XB λ_ _=>.int _
 ·cases h;exact Z9 XG λ_ _=>.str _
include S
theorem TH{op:UnaryOp}(h:yc r c op a=some m):PE X (.UnaryOp op a pos) (LE X.K Ξ (aS P m)):=by
 unfold yc at h;split at h
 ·rename_i ho;subst ho;obtain⟨ma,ha,rfl⟩:=aa.mp h;exact Oh C.mono (S.e X c Ξ C _ _ ha)
 ·obtain⟨ma,ha,rfl⟩:=uQ S C h;exact Wa C.mono ha
theorem FJ{ops:List CmpOp}{bs:List Expr}(h:vo r c a ops bs=some m):PE X (.Compare a ops bs pos) (LE X.K Ξ (aS P m))/\PT X (.Compare a ops bs pos) (LT X.K Ξ (dF P (.dQ m))):=by
 unfold vo at h;split at h
 ·rename_i op b;split at h
  ·cases h
  ·rename_i hm;have hm:behindInMarks op b=false:=by simpa using hm
   obtain⟨ma,mb,ha,hb,rfl⟩:=rS S C h;exact⟨CI C.mono (Ql (rZ C.units op) ha hb hm),Oy C.mono (Jd (rZ C.units op) ha hb hm)⟩
 ·split at h
  ·cases h
  ·rename_i hm;obtain⟨ma,ha,h⟩:=ag.mp h;obtain⟨mb,hb,h⟩:=ag.mp h;obtain⟨md,hd,rfl⟩:=aa.mp h;exact⟨a97 C.mono C.units (S.e X c Ξ C _ _ ha) (S.e X c Ξ C _ _ hb) (S.e X c Ξ C _ _ hd) (by simpa using hm),a84 C.mono C.units (S.e X c Ξ C _ _ ha) (S.e X c Ξ C _ _ hb) (S.e X c Ξ C _ _ hd) (by simpa using hm)⟩
 ·cases h
theorem Tw{lo hi st:Option Expr}{p2:Pos}(h:Dr r c a lo hi st=some m):PE X (.Subscript a (.Slice lo hi st p2) pos) (LE X.K Ξ (aS P m)):=by
 cases lo<;>cases hi<;>cases st<;>first|(cases h;done)|skip
 ·obtain⟨ma,mb,ha,hb,rfl⟩:=rS S C h;exact a89 C.mono ha hb
 ·obtain⟨ma,mb,ha,hb,rfl⟩:=rS S C h;exact a88 C.mono ha hb
theorem VA(h:Fg r c a b=some m):PE X (.Subscript a b pos) (LE X.K Ξ (aS P m)):=by
 rcases orElse_some h with h|h
 ·obtain⟨q,hq,h⟩:=ag.mp h;have eb:∃p,b=.Slice q.1 q.2.1 q.2.2 p:=by cases b<;>first|(cases hq;exact⟨_,rfl⟩)|cases hq
  obtain⟨p,rfl⟩:=eb;exact Tw S C h
 ·split at h
  ·rename_i hb;rcases orElse_some h with h|h
   ·obtain⟨kvs,hk,h⟩:=ag.mp h;obtain⟨mb,iN,rfl⟩:=aa.mp h;obtain⟨x,p,rfl,hg,hd,hk⟩:=RI hk;exact QF C.mono (C.u9 hg) (L0 hd).1 (C.Ac x kvs hk) (S.e X c Ξ C _ _ iN) (Ko hb)
   ·obtain⟨ma,mb,ha,iN,rfl⟩:=rS S C h;exact CI C.mono (FN (Vl C.units) ha iN (Ko hb))
  ·cases h
theorem Tx(hg:c.gl x=true)(h:Dq r c x e=some m):PE X (.Call (.Name x px) [e] [] pos) (LE X.K Ξ (aS P m)):=by
 obtain⟨q,hq,h'⟩:=ag.mp h;clear h;have h:=h';clear h';obtain⟨p,pos',rfl⟩:=P6 hq;obtain⟨y,as⟩:=q;dsimp only at h ⊢;split at h
 ·rename_i hc;simp only[Bool.and_eq_true,decide_eq_true_eq] at hc;obtain⟨⟨⟨⟨rfl,rfl⟩,hl⟩,hr⟩,qN⟩:=hc;rcases as with _|⟨a,_|⟨b,_|⟨_,_⟩⟩⟩
  ·cases h
  ·dsimp only at h;split at h
   ·rename_i ho;obtain⟨ma,ha,rfl⟩:=uQ S C h;exact a95 C.mono C.calm ha (C.u9 hg) (C.blt _ hl) (C.u9 qN) (C.blt _ hr) (i9 ho)
   ·cases h
  ·dsimp only at h;split at h
   ·rename_i ho;rw[aT] at ho;obtain⟨ma,mb,ha,hb,rfl⟩:=rS S C h;exact a94 C.mono C.calm ha hb (C.u9 hg) (C.blt _ hl) (C.u9 qN) (C.blt _ hr) (by rw[i9 ho.1,i9 ho.2];rfl) (i9 ho.2)
   ·cases h
  ·cases h
 ·split at h
  ·rename_i hc;simp only[Bool.and_eq_true,decide_eq_true_eq] at hc;obtain⟨⟨⟨⟨rfl,rfl⟩,hl⟩,hr⟩,qN⟩:=hc;rcases as with _|⟨a,_|⟨_,_⟩⟩
   ·cases h
   ·dsimp only at h;split at h
    ·rename_i ho;obtain⟨ma,ha,rfl⟩:=uQ S C h;exact QJ C.mono C.calm ha (C.u9 hg) (C.blt _ hl) (C.u9 qN) (C.blt _ hr) (i9 ho)
    ·cases h
   ·cases h
  ·split at h
   ·rename_i hc;simp only[Bool.and_eq_true,decide_eq_true_eq] at hc;obtain⟨⟨⟨⟨rfl,rfl⟩,hl⟩,hr⟩,qN⟩:=hc;rcases as with _|⟨a,_|⟨_,_⟩⟩
    ·cases h
    ·dsimp only at h;split at h
     ·rename_i ho;obtain⟨ma,ha,rfl⟩:=uQ S C h;exact QG C.mono C.calm ha (C.u9 hg) (C.blt _ hl) (C.u9 qN) (C.blt _ hr) (i9 ho)
     ·cases h
    ·cases h
   ·cases h
theorem PV(h:Iz r c x args=some m):PE X (.Call (.Name x px) args [] pos) (LE X.K Ξ (aS P m)):=by
 cases args with
 |nil =>
  have h2:CO c x=some m:=h;unfold CO at h2;split at h2
  ·rename_i gz;rw[aT] at gz;rcases orElse_some h2 with h2|h2
   ·obtain⟨f,hf,rfl⟩:=aa.mp h2;obtain⟨k,fa,fd,ps,F,hr,hm,hk⟩:=C.fns x f hf;exact a98 C.mono C.pass F hr (C.u9 gz.2) hm hk (L0 gz.1).1
   obtain⟨f,hf,rfl⟩:=aa.mp h2;obtain⟨k,C',fa,fd,ps,F,hr,hm,hC,iF,M⟩:=C.cls x f hf;exact a93 C.mono C.pass F M hC iF hr (C.u9 gz.2) hm (L0 gz.1).1
  ·cases h2
 |cons e es =>
  have h0:CP r c x e es=some m:=h;clear h;have h:=h0;clear h0;unfold CP at h;split at h
  ·rename_i gz;rw[aT] at gz;obtain⟨d1,d2,d3⟩:=L0 gz.1;rcases orElse_some h with h|h
   ·cases es with
    |nil=>exact Tx S C gz.2 h
    |cons _ _=>cases h
   ·obtain⟨ms,qJ,h⟩:=ag.mp h;have ok:=Be qJ;have pa:=sX S C qJ;have eP:=i9 (env:=X.env) (es:=es) (ok e (by simp));have fU:=M9 (pos:=pos) (env:=X.env) (es:=es) λz hz=>ok z (by simp[hz]);rcases orElse_some h with h|h
    ·obtain⟨f,hf,rfl⟩:=aa.mp h;obtain⟨k,fa,fd,ps,F,hr,hm,hk⟩:=C.fns x f hf;exact QC C.mono C.pass F hr (C.u9 gz.2) hm hk pa d1 eP fU
    ·rcases orElse_some h with h|h
     ·obtain⟨f,hf,rfl⟩:=aa.mp h;obtain⟨k,C',fa,fd,ps,F,hr,hm,hC,iF,M⟩:=C.cls x f hf;exact QH C.mono C.pass F M hC iF hr (C.u9 gz.2) hm pa d1 eP fU
     ·split at h
      ·rename_i hb;obtain⟨p,hp,rfl⟩:=aa.mp h;obtain⟨v,hv,zi,hc⟩:=a59 (X:=X) C.calm C.units hp;exact Od C.mono hv hc (C.u9 gz.2) (C.blt x hb) zi pa d3 d1 eP fU
      ·cases h
  ·cases h
omit S in
theorem JE{m:Str}:AM X P Ξ.1 m (c.meths m):=λy f C' h hC=>by
 have hm:=aL h;unfold d6.meths at hm;obtain⟨⟨m',y',f'⟩,h1,h2⟩:=aE.mp hm;obtain⟨h3,h4⟩:=bg.mp h1;cases h2;have:m'=m:=by simpa using h4
 subst this;exact C.my m' y f C' h3 hC
theorem PU{mt:Str}{apos:Pos}(h:CQ r c o mt apos pos args=some m):PE X (.Call (.Attribute o mt apos) args [] pos) (LE X.K Ξ (aS P m)):=by
 unfold CQ at h;split at h
 ·rename_i hc;simp only[Bool.and_eq_true,decide_eq_true_eq] at hc;obtain⟨⟨hb,hl⟩,hn⟩:=hc;obtain⟨mo,ho,h⟩:=ag.mp h;obtain⟨ms,qJ,h⟩:=ag.mp h;have ok:=Be qJ;have pa:=sX S C qJ;have po:=S.e X c Ξ C _ _ ho;have hf:methodCallForm args.length (backTo pos (starEach args X.env)) (backToKw pos (keywordEach [] X.env))=true:=by
   unfold methodCallForm;rw[JR ok];have:args.length+0<30:=by omega
   show(true&&true&&decide (args.length+0<30))=true;rw[aH this]
   rfl
  by_cases mI:mt="index"
  ·subst mI;rw[aN rfl] at h;cases args with
   |nil=>cases h
   |cons e es =>
    cases h;exact a96 C.mono C.units po pa (E1 hb) hf hl (i9 (env:=X.env) (es:=es) (ok e (by simp))) (M9 (pos:=pos) (env:=X.env) (es:=es) λz hz=>ok z (by simp[hz]))
  rw[aG mI] at h;by_cases we:(decide (mt="pop")&&FL o&&!args.isEmpty)=true
  ·rw[aN we] at h;obtain rfl:=aD h;simp only[Bool.and_eq_true,decide_eq_true_eq] at we;obtain⟨⟨rfl,_⟩,fK⟩:=we;cases args with
   |nil=>cases fK
   |cons e es =>
    exact Jk C.mono qq vH PySem.F.type_dict_pop Pj (λR r h=>ty_dict R r h) po pa (E1 hb) hf hl (i9 (env:=X.env) (es:=es) (ok e (by simp))) (M9 (pos:=pos) (env:=X.env) (es:=es) λz hz=>ok z (by simp[hz]))
  rw[aG we] at h;cases args with
  |nil =>
   cases qJ;by_cases h0:(vc.lookup mt).isSome=true
   ·rw[aN (by rw[h0];rfl)] at h;obtain⟨p,hp,rfl⟩:=aa.mp h;obtain⟨T,id,yu,sl,ty,yy,hk⟩:=YX (X:=X) hp;exact a92 C.mono yu sl ty yy hk po (E1 hb) hl
   rw[aG (by rw[aT];exact λz=>h0 z.2)] at h;split at h
   ·cases h
   ·cases h;exact Yr C.mono C.pass (JE C) po (GW hb hl hf)
  |cons e es =>
   have eP:=i9 (env:=X.env) (es:=es) (ok e (by simp));have fU:=M9 (pos:=pos) (env:=X.env) (es:=es) λz hz=>ok z (by simp[hz]);rw[aG (by simp)] at h;split at h
   ·rename_i p hp;cases h;obtain⟨T,id,yu,sl,ty,yy,hk⟩:=a28 (X:=X) C.units hp;exact Jk C.mono yu sl ty yy hk po pa (E1 hb) hf hl eP fU
   ·cases h;exact a91 C.mono C.pass (JE C) po pa eP fU (GW hb hl hf)
 ·cases h
theorem DM{tg:Expr}(h:xH r c tg e=some m):PI X tg e (LI X.K Ξ (gb P m)):=by
 rcases orElse_some h with h|h
 ·obtain⟨q,hq,h'⟩:=ag.mp h;rename_i h0;clear h h0;have h:=h';clear h';obtain⟨p,pos',rfl⟩:=P6 hq;obtain⟨y,as⟩:=q;dsimp only at h ⊢;split at h
  ·rename_i hy;subst hy;rcases as with _|⟨a,_|⟨_,_⟩⟩
   ·cases h
   ·dsimp only at h;split at h
    ·rename_i hc;simp only[Bool.and_eq_true] at hc;obtain⟨⟨⟨hg,hb⟩,ho⟩,ht⟩:=hc;obtain⟨ma,ha,rfl⟩:=aa.mp h;obtain⟨es,k,tp,rfl⟩:=a61 ht;exact QN C.mono (S.e X c Ξ C _ _ ha) (C.u9 hg) (C.blt _ hb) (i9 ho)
    ·cases h
   ·cases h
  ·split at h
   ·rename_i hy;subst hy;rcases as with _|⟨a,_|⟨_,_⟩⟩
    ·cases h
    ·dsimp only at h;split at h
     ·rename_i hc;simp only[Bool.and_eq_true] at hc;obtain⟨⟨hg,hb⟩,ho⟩:=hc;obtain⟨ma,ha,rfl⟩:=aa.mp h;exact Oo C.mono (S.e X c Ξ C _ _ ha) (C.u9 hg) (C.blt _ hb) (i9 ho)
     ·cases h
    ·cases h
   split at h
   ·rename_i hy;subst hy;rcases as with _|⟨a,_|⟨b,_|⟨_,_⟩⟩⟩
    ·cases h
    ·dsimp only at h;split at h
     ·rename_i hc;simp only[Bool.and_eq_true] at hc;obtain⟨⟨hg,hb⟩,ho⟩:=hc;obtain⟨ma,ha,rfl⟩:=aa.mp h;exact QO C.mono (S.e X c Ξ C _ _ ha) (C.u9 hg) (C.blt _ hb) (i9 ho)
     ·cases h
    ·dsimp only at h;split at h
     ·rename_i hc;simp only[Bool.and_eq_true] at hc;obtain⟨⟨⟨hg,hb⟩,ho⟩,jS⟩:=hc;obtain⟨ma,ha,h⟩:=ag.mp h;obtain⟨mb,iN,rfl⟩:=aa.mp h;exact QP C.mono (S.e X c Ξ C _ _ ha) (S.e X c Ξ C _ _ iN) (C.u9 hg) (C.blt _ hb) (by rw[i9 ho,i9 jS];rfl) (i9 jS)
     ·cases h
    ·cases h
   ·cases h
 ·split at h
  ·obtain⟨ma,ha,rfl⟩:=aa.mp h;exact Oq C.mono (S.e X c Ξ C _ _ ha)
  ·cases h
omit S in
theorem rC(h:c.Y5 e i=true):∃x p,e=.Name x p/\PE X e (Y3 i):=by
 unfold d6.Y5 at h;cases e<;>first|(cases h;done)|skip
 rename_i x p;have h:(T9 x&&c.oZ x&&decide (c.idx x=some i))=true:=h;simp only[Bool.and_eq_true,decide_eq_true_eq] at h;obtain⟨⟨h1,h2⟩,h3⟩:=h;obtain⟨d1,d2,_⟩:=L0 h1;exact⟨x,p,rfl,Kq (C.nT h3) (C.FZ h2) d1 d2⟩
omit S in
theorem Tu{ifs:List Expr}(h:Ds c ifs=true):iO X ifs (uN (oh (yt X.K true) (Y3 0) (Y3 3))):=by
 rcases ifs with _|⟨e,_|⟨_,_⟩⟩
 ·cases h
 ·cases e<;>first|(cases h;done)|skip
  rename_i a ops bs p;have h:(decide (ops=[.NotIn])&&c.Y5 a 0&&Dt c bs)=true:=h;simp only[Bool.and_eq_true,decide_eq_true_eq] at h;obtain⟨⟨rfl,h1⟩,h2⟩:=h;rcases bs with _|⟨b,_|⟨_,_⟩⟩<;>first|(cases h2;done)|skip
  have h2:c.Y5 b 3=true:=h2;obtain⟨_,_,rfl,p1⟩:=rC C h1;obtain⟨_,_,rfl,p2⟩:=rC C h2;exact Jf (Jd aG2 p1 p2 rfl)
 ·cases h
theorem Ts{kx vx:Expr}{gens:List Comprehension}(h:yf r c kx vx gens sc=some m):PE X (.DictComp kx vx gens sc pos) (LE X.K Ξ (aS P m)):=by
 unfold yf at h;rcases gens with _|⟨⟨tg,it,ifs,oo⟩,_|⟨_,_⟩⟩
 ·cases h
 ·dsimp only at h;split at h
  ·rename_i hs;simp only[Bool.and_eq_true,decide_eq_true_eq] at hs;obtain⟨⟨⟨⟨⟨hs,rfl⟩,h3⟩,hk⟩,hv⟩,ht⟩:=hs;obtain⟨q,hq,h⟩:=ag.mp h;obtain⟨w,hw,h⟩:=ag.mp h;split at h
   ·rename_i hx;simp only[Bool.and_eq_true,decide_eq_true_eq] at hx;obtain⟨⟨⟨⟨x1,x2⟩,x3⟩,x4⟩,x5⟩:=hx;obtain⟨es,he,h⟩:=ag.mp h;split at h
    ·rename_i ke;have ke:=aQ ke;split at h
     ·rename_i j hj;obtain⟨mo,Eb,rfl⟩:=aa.mp h;obtain⟨cl,Sc,I⟩:=C.comp hs;rw[hj] at Sc;obtain⟨f,as,ks,ip⟩:=q;obtain rfl:=WE hq;obtain⟨o,mm,ap⟩:=w;obtain rfl:=OY hw;obtain⟨kk,tp,rfl⟩:=Ke he;dsimp only at x1 x2 x3 x4 x5 Eb;obtain rfl:=gF.mp x1;obtain rfl:=gF.mp x2;subst x3;exact QD C.mono Sc h3 C.calm (S.e X c Ξ C _ _ Eb) (E1 x4) x5 (λpins A s H fp=>CG (I pins A s H fp).calm (BA ((I pins A s H fp).nu rfl) ((I pins A s H fp).slots ke)) (E6 ((I pins A s H fp).slots ke)).1 (E6 ((I pins A s H fp).slots ke)).2) (λpins A s H fp=>Tu (I pins A s H fp) ht)
       (λpins A s H fp=>let ⟨_,_,_,z⟩:=rC (I pins A s H fp) hk;z) (λpins A s H fp=>let ⟨_,_,_,z⟩:=rC (I pins A s H fp) hv;z)
     ·cases h
    ·cases h
   ·cases h
  ·cases h
 ·cases h
theorem AZ{elt:Expr}{gens:List Comprehension}(h:qm r c elt gens sc=some m):∃tg it ifs t mi mc me cl,gens=[⟨tg,it,ifs,0⟩]/\m=.comp (c.c7 sc) (frees sc++locals sc).length t mi mc me/\fR it=true /\
  cj X sc (frees sc++locals sc) (c.c7 sc) cl/\PI X tg it (LI X.K Ξ (gb P mi))/\(∀pins A s H fp,PG (c8 X pins sc (frees sc++locals sc) cl A s H fp) tg (LG X.K t)) /\
   (∀pins A s H fp,iO (c8 X pins sc (frees sc++locals sc) cl A s H fp) ifs (LT X.K (mS Ξ.1) (dF P mc)))/\(∀pins A s H fp,PE (c8 X pins sc (frees sc++locals sc) cl A s H fp) elt (LE X.K (mS Ξ.1) (aS P me))):=by
 unfold qm at h;rcases gens with _|⟨⟨tg,it,ifs,oo⟩,_|⟨_,_⟩⟩
 ·cases h
 ·dsimp only at h;split at h
  ·rename_i hs;simp only[Bool.and_eq_true,decide_eq_true_eq] at hs;obtain⟨⟨hs,rfl⟩,hit⟩:=hs;obtain⟨t,h1,h⟩:=ag.mp h;obtain⟨mi,h2,h⟩:=ag.mp h;obtain⟨mc,h3,h⟩:=ag.mp h;obtain⟨me,h4,rfl⟩:=aa.mp h;obtain⟨cl,Sc,I⟩:=C.comp hs;exact⟨tg,it,ifs,t,mi,mc,me,cl,rfl,rfl,hit,Sc,DM S C h2,λpins A s H fp=>(I pins A s H fp).Fe rfl h1,λpins A s H fp=>Tz S (I pins A s H fp) h3,λpins A s H fp=>S.e _ _ _ (I pins A s H fp) elt me h4⟩
  ·cases h
 ·cases h
omit S in
theorem Tv{f:Expr}{iE:List Keyword}(h:vN c f args iE=some m):PE X (.Call f args iE pos) (LE X.K Ξ (aS P m)):=by
 unfold vN at h;cases h
theorem Lv:∀e m,FT r c e=some m->PE X e (LE X.K Ξ (aS P m)):=by
 intro e m h;cases e with
 |Name x p=>exact Xj C h
 |Constant k j p =>
  obtain⟨d,hd,rfl⟩:=aa.mp (show(qh k).map ME.lit=some m from h);exact yx hd
 |BinOp a op b p =>
  obtain⟨ma,mb,ha,hb,rfl⟩:=rS S C h;exact CI C.mono (VN (Xm op) ha hb)
 |UnaryOp op a p=>exact TH S C h
 |Compare a ops bs p=>exact(FJ S C h).1
 |BoolOp op vs p=>exact Lx S C h
 |IfExp t a b p =>
  obtain⟨mt,ht,h⟩:=ag.mp h;obtain⟨ma,ha,h⟩:=ag.mp h;obtain⟨mb,hb,rfl⟩:=aa.mp h;exact Og C.mono (S.t X c Ξ C _ _ ht) (S.e X c Ξ C _ _ ha) (S.e X c Ξ C _ _ hb)
 |Tuple es k p =>
  obtain⟨ma,ha,rfl⟩:=aa.mp h;exact Oi C.mono (sX S C ha)
 |List es p =>
  obtain⟨ma,ha,rfl⟩:=aa.mp h;exact Ih C.mono (sX S C ha)
 |Subscript a b p=>exact VA S C h
 |Dict ks vs p =>
  have h2:(if ks.isEmpty&&vs.isEmpty then some (ME.prim .R7 .nil) else if decide (ks.length<=15) then(xF r c ks vs).map .mR else none)=some m:=h;split at h2
  ·rename_i hc;cases ks<;>cases vs<;>first|(cases hc;done)|skip
   cases h2;exact QE
  ·rename_i hc;split at h2
   ·rename_i hl;obtain⟨ms,hm,rfl⟩:=aa.mp h2;obtain⟨gL,D⟩:=Lw S C hm;refine Oe C.mono D (λz=>hc ?_) (aQ hl);have:=D.len.2;subst z;cases vs<;>first|rfl|cases this
   ·cases h2
 |Attribute o f p =>
  have h2:(if rY o then c1 r c (.fld f) o else none)=some m:=h;split at h2
  ·rename_i hb;obtain⟨ma,ha,rfl⟩:=uQ S C h2;exact Of C.mono ha (E1 hb)
  ·cases h2
 |Call f args iE pos =>
  have h1:((yd r c f args iE).orElse λ_=>(vN c f args iE).orElse λ_=>Cp r c f args iE pos)=some m:=h;rcases orElse_some h1 with h2|h2
  ·unfold yd at h2;rcases args with _|⟨a,_|⟨_,_⟩⟩
   ·cases h2
   ·dsimp only at h2;split at h2
    ·rename_i hk;simp only[Bool.and_eq_true,decide_eq_true_eq] at hk;obtain⟨⟨⟨hk,hf⟩,lR⟩,hb⟩:=hk;cases iE<;>first|(cases hk;done)|skip
     obtain⟨q,hq,h3⟩:=ag.mp h2;obtain⟨m1,h4,h5⟩:=ag.mp h3;cases f<;>first|(cases hf;done)|skip
     cases a<;>first|(cases hq;done)|skip
     cases hf;cases hq;obtain⟨tg,it,ifs,t,mi,mc,me,cl,eg,rfl,hit,Sc,q1,q2,q3,q4⟩:=AZ S C h4;dsimp only at eg;subst eg;cases h5;exact a90 C.mono Sc C.calm q1 q2 q3 q4 (xp hit) (C.u9 lR) (C.blt _ hb)
    ·cases h2
   ·cases h2
  clear h h1;rcases orElse_some h2 with h3|h3
  ·exact Tv C h3
  clear h2;unfold Cp at h3;split at h3
  ·rename_i hk;cases iE<;>first|(cases hk;done)|skip
   cases f with
   |Name x p=>exact PV S C h3
   |Attribute o a p=>exact PU S C h3
   |_=>cases h3
  ·cases h3
 |Set es k p =>
  have h2:CZ c es k=some m:=h;unfold CZ at h2;split at h2
  ·rename_i hc;rw[aT] at hc;obtain rfl:=aQ hc.2;split at h2
   ·cases h2;exact QI C.mono (C.code hc.1)
   ·cases h2
  ·cases h2
 |ListComp elt gens sc p =>
  obtain⟨tg,it,ifs,t,mi,mc,me,cl,rfl,rfl,hit,Sc,q1,q2,q3,q4⟩:=AZ S C h;exact(IX Sc C.calm q1 q2 q3 q4 (xp hit)).imp λZ H Q h=>Jw C.mono Z H Q h
 |_=>cases h
theorem Ls:∀e m,stepT r c e=some m->PT X e (LT X.K Ξ (dF P m)):=by
 intro e m h;have plain:∀{e:Expr} {m:ME},(if BB e then(r.e c e).map ME.dQ else none)=some m->PT X e (LT X.K Ξ (dF P m)):=λ{e m} h=>by
  split at h
  ·rename_i hp;obtain⟨ma,ha,rfl⟩:=aa.mp h;exact Oz C.mono (S.e X c Ξ C _ _ ha) (a06 hp)
  ·cases h
 cases e with
 |UnaryOp op a p =>
  have h2:(if op=.Not then(r.t c a).map ME.cO else none)=some m:=h;split at h2
  ·rename_i ho;subst ho;obtain⟨ma,ha,rfl⟩:=aa.mp h2;exact Ox C.mono (S.t X c Ξ C _ _ ha)
  ·cases h2
 |BoolOp op vs p=>exact(Lr S C h).pt
 |Compare a ops bs p =>
  obtain⟨ma,ha,rfl⟩:=aa.mp (show(vo r c a ops bs).map ME.dQ=some m from h);exact(FJ S C ha).2
 |_=>exact plain h
end
theorem YC{α:Type}{l:List α}{x:α}(h:Kd l=some x):l=[x]:=by
 rcases l with _|⟨a,_|⟨_,_⟩⟩<;>cases h
 rfl
section
theorem Jv(h:Fw e=some m):PE X e (LE X.K Ξ (aS P m))/\fR e=true:=by
 cases e<;>first|(cases h;done)|skip
 obtain⟨d,hd,rfl⟩:=aa.mp (show(qh _).map ME.lit=some m from h);exact⟨yx hd,rfl⟩
theorem a53(hP:f9 P):∀{es:List Expr} {m:ME},Ct es=some m->PA X es (LA X.K Ξ (fc P m)):=by
 intro es
 induction es with
 |nil=>intro m h;cases h;exact E7 hP
 |cons e es ih =>
  intro m h;obtain⟨m1,h1,h⟩:=ag.mp h;obtain⟨m2,h2,rfl⟩:=aa.mp h;exact v9 hP (Jv h1).1 (ih h2) (i9 (Jv (X:=X) (Ξ:=Ξ) (P:=P) h1).2)
theorem Rz(hP:f9 P)(h:Fv e=some m):PE X e (LE X.K Ξ (aS P m)):=by
 cases e<;>first|(cases h;done)|skip
 ·obtain⟨d,hd,rfl⟩:=aa.mp (show(qh _).map ME.lit=some m from h);exact yx hd
 ·obtain⟨ms,hm,rfl⟩:=aa.mp h;exact Ih hP (a53 hP hm)
theorem YB{h:ExceptHandler}{q:Str×Expr}(hq:Kc h=some q):∃p p1 p2,h=.ExceptHandler (some (.Name q.1 p)) none [.Return (some q.2) p1] p2:=by
 obtain⟨t,n,b,p0⟩:=h;cases n with
 |some _=>cases hq
 |none =>
  obtain⟨t,rfl,hq⟩:=ag.mp (show t.bind _=some q from hq);obtain⟨y,hy,hq⟩:=ag.mp hq;obtain⟨e,he,rfl⟩:=aa.mp hq;obtain⟨p,rfl⟩:=BE hy;rcases b with _|⟨s,_|⟨_,_⟩⟩
  ·cases he
  ·cases s<;>first|(cases he;done)|(cases he;exact⟨_,_,_,rfl⟩)
  ·cases he
theorem Ry(C:gx X c P Ξ)(zc:uO X Ξ.2):∀{hs:List ExceptHandler} {ms:List (Str×ME)},xG c hs=some ms->kO X Ξ P hs ms:=by
 intro hs
 induction hs with
 |nil=>intro ms h;cases h;exact .nil zc
 |cons hd hs ih =>
  intro ms h;obtain⟨q,hq,h'⟩:=ag.mp h;clear h;have h:=h';clear h';obtain⟨p,p1,p2,rfl⟩:=YB hq;obtain⟨y,e⟩:=q;dsimp only at h ⊢;split at h
  ·rename_i hc;simp only[Bool.and_eq_true] at hc;obtain⟨m,h1,h⟩:=ag.mp h;obtain⟨DO,h2,rfl⟩:=aa.mp h;obtain⟨C',hm,hi,_⟩:=C.exc y hc.1.1;refine .cons (C.u9 hc.1.2) (L0 hc.2).1 hm (λx C1 hx h1=>C.Aj x y C1 C' ?_ hc.1.1 h1 hi) (λea=>Rz (X:=C9 X ea) C.mono h1) (ih h2);rw[C.wC] at hx;simpa using hx
  ·cases h
theorem Zn{e f:Option Expr}{q:Str×Expr×List Expr}(h:IA e f=some q):f=none/\∃p p',e=some (.Call (.Name q.1 p) (q.2.1::q.2.2) [] p'):=by
 cases f with
 |some _=>cases h
 |none =>
  obtain⟨t,rfl,h⟩:=ag.mp (show e.bind _=some q from h);obtain⟨z,hz,h⟩:=ag.mp h;obtain⟨p,p',rfl⟩:=P6 hz;obtain⟨x,as⟩:=z;cases as with
  |nil=>cases h
  |cons a as=>cases h;exact⟨rfl,_,_,rfl⟩
theorem IH(C:gx X c P Ξ){f:Str}:wI X.K f (c.xy f):=λy C' h hC=>by
 obtain⟨⟨f',y'⟩,h1,h2⟩:=aE.mp h;obtain⟨h3,h4⟩:=bg.mp h1;cases h2;have:f'=f:=by simpa using h4
 subst this;exact C.mP f' y' C' h3 hC
variable(S:oS P r)(C:gx X c P Ξ)
include S C
theorem Tt(hw:c.wr=true)(h:yg r c e=some m)(hl:Loc X.env.scope x/\(X.fn x=true\/X.env.scope.names.lookup x=some .local))(hi:X.N[i]?=some x):PS X (.Assign [.Name x px] e pos) (LS X.K Ξ (wpS P (.set i m))):=by
 cases e<;>first|(cases h;done)|skip
 rename_i kx vx gens sc p
 replace h:ye r c kx vx gens sc=some m:=h
 unfold ye at h;rcases gens with _|⟨⟨tg,it,ifs,oo⟩,_|⟨_,_⟩⟩
 ·cases h
 ·dsimp only at h;split at h
  ·rename_i hs;simp only[Bool.and_eq_true,decide_eq_true_eq] at hs;obtain⟨⟨⟨⟨⟨⟨hs,rfl⟩,h3⟩,hk⟩,hv⟩,ht⟩,MH⟩:=hs;obtain⟨q,hq,h⟩:=ag.mp h;obtain⟨a,ha,h⟩:=ag.mp h;obtain⟨es,he,h⟩:=ag.mp h;split at h
   ·rename_i hc;simp only[Bool.and_eq_true,decide_eq_true_eq] at hc;obtain⟨⟨⟨⟨h1,hg⟩,hb⟩,ho⟩,ke⟩:=hc;obtain⟨ma,Mo,rfl⟩:=aa.mp h;obtain⟨ep,ip,rfl⟩:=P6 hq;obtain⟨y,as⟩:=q;dsimp only at h1 ha;subst h1;obtain rfl:=YC ha;obtain⟨cl,Sc,I⟩:=C.comp hs;rw[gF.mp MH] at Sc;obtain rfl:=gF.mp ht;obtain⟨kk,tp,rfl⟩:=Ke he;exact QV C.mono Sc h3 C.calm (S.e X c Ξ C _ _ Mo) (C.u9 hg) (C.blt _ hb) (i9 ho) (λpins A s H fp=>CG (I pins A s H fp).calm (BA ((I pins A s H fp).nu rfl) ((I pins A s H fp).slots ke)) (E6 ((I pins A s H fp).slots ke)).1 (E6 ((I pins A s H fp).slots ke)).2)
     (λpins A s H fp=>let ⟨_,_,_,z⟩:=rC (I pins A s H fp) hk;z) (λpins A s H fp=>let ⟨_,_,_,z⟩:=rC (I pins A s H fp) hv;z) (C.nu hw) hi hl.1 hl.2
   ·cases h
  ·cases h
 ·cases h
theorem Vz{tg:Expr}{m:MS}(hw:c.wr=true)(hS:∀e m,r.e c e=some m->w9 e=false->∃elt gens sc p,e=.ListComp elt gens sc p/\∃r',oS P r'/\qm r' c elt gens sc=some m)(hT:∀a b k p m,r.e c (.Tuple [a,b] k p)=some m->∃r' ms,oS P r'/\J1 r' c [a,b]=some ms/\m=.prim .tup ms)(h:GB r c tg e=some m):PS X (.Assign [tg] e pos) (LS X.K Ξ (wpS P m)):=by
 cases tg with
 |Name x px =>
  have h2:(if c.t8 x then(c.idx x).bind λi=>((r.e c e).orElse λ_=>yg r c e).map λm=>MS.set i m else none)=some m:=h;split at h2
  ·rename_i hl;obtain⟨i,hi,h2⟩:=ag.mp h2;obtain⟨me,he,rfl⟩:=aa.mp h2;rcases orElse_some he with he|he
   rotate_left
   ·exact Tt S C hw he (C.t8 hl) (C.nT hi)
   cases hn:w9 e with
   |true=>exact Il C.mono (CH (C.nu hw) (C.nT hi) (C.t8 hl).1 (S.e X c Ξ C _ _ he) (Bz hn) (C.t8 hl).2)
   |false =>
    obtain⟨elt,gens,sc,p,rfl,r',S',hx⟩:=hS e me he hn;obtain⟨tg,it,ifs,t,mi,mc,me,cl,rfl,rfl,hit,Sc,q1,q2,q3,q4⟩:=AZ S' C hx;refine Il C.mono ?_;exact(ZG Sc C.calm q1 q2 q3 q4 (xp hit) (C.nu hw) (C.nT hi) (C.t8 hl).1 (C.t8 hl).2).imp λN Z H h=>Jw C.mono Z H _ h
  ·cases h2
 |Tuple es k pt =>
  have h0:((Cr es).elim (if rP e&&w9 e then(c.slots es).bind λis=>(r.e c e).map λm=>MS.mr (.many is) m else none) λq=>if w9 e&&fR q.2.1&&fR q.2.2.2 then(r.e c q.1).bind λm1=>(r.e c q.2.1).bind λn1=>(r.e c q.2.2.1).bind λm2=>(r.e c q.2.2.2).bind λn2=>(r.e c e).map λm=>MS.vR m1 n1 m2 n2 m else none)=some m:=h;cases hq:Cr es with
  |some q =>
   rw[hq] at h0;dsimp only[Option.elim] at h0;split at h0
   ·cases hq
   ·cases h0
  |none =>
  rw[hq] at h0;have h2:(if rP e&&w9 e then(c.slots es).bind λis=>(r.e c e).map λm=>MS.mr (.many is) m else none)=some m:=h0;split at h2
  ·rename_i hn;rw[aT] at hn;obtain⟨is,hs,h2⟩:=ag.mp h2;obtain⟨me,he,rfl⟩:=aa.mp h2;exact OE C.mono (Kr (S.e X c Ξ C _ _ he) (Jm C.calm (C.nu hw) (C.slots hs)) (HN hn.2) (Se hn.1))
  ·cases h2
 |Subscript o i pt =>
  have h2:(if fR i&&w9 e then(r.e c o).bind λmo=>(r.e c i).bind λmi=>(r.e c e).map λm=>MS.cN mo mi m else none)=some m:=h;split at h2
  ·rename_i hn;rw[aT] at hn;obtain⟨mo,ho,h2⟩:=ag.mp h2;obtain⟨mi,hi,h2⟩:=ag.mp h2;obtain⟨me,he,rfl⟩:=aa.mp h2;exact a80 C.mono C.units (S.e X c Ξ C _ _ he) (S.e X c Ξ C _ _ ho) (S.e X c Ξ C _ _ hi) (HN hn.2) (PZ hn.1)
  ·cases h2
 |Attribute o f pt =>
  obtain⟨mo,ho,h⟩:=ag.mp h;obtain⟨me,he,rfl⟩:=aa.mp h;exact QX C.mono (IH C) (S.e X c Ξ C _ _ ho) (by cases e<;>first|exact Ts S C he|exact S.e X c Ξ C _ _ he) (by cases e<;>rfl)
 |_=>cases h
theorem Lu(hw:c.wr=true)(hS:∀e m,r.e c e=some m->w9 e=false->∃elt gens sc p,e=.ListComp elt gens sc p/\∃r',oS P r'/\qm r' c elt gens sc=some m)(hT:∀a b k p m,r.e c (.Tuple [a,b] k p)=some m->∃r' ms,oS P r'/\J1 r' c [a,b]=some ms/\m=.prim .tup ms) :
  ∀st m,FU r c st=some m->PS X st (LS X.K Ξ (wpS P m)):=by
 intro st m h;have hP:=C.mono;cases st with
 |AugAssign tg op e p =>
  cases tg with
  |Attribute o f tp =>
   have h2:(if decide (op=Operator.Add) then(r.e c o).bind λmo=>(r.e c e).map λm=>MS.jx f (c.xy f) mo m else none)=some m:=h;split at h2
   ·rename_i ho;obtain rfl:=aQ ho;obtain⟨mo,ho,h2⟩:=ag.mp h2;obtain⟨me,he,rfl⟩:=aa.mp h2;exact QT C.mono (IH C) (S.e X c Ξ C _ _ ho) (S.e X c Ξ C _ _ he)
   ·cases h2
  |Name x tp =>
   have h2:(if c.t8 x then(Ft op).bind λp=>(c.idx x).bind λi=>(r.e c e).map λm=>MS.jw i p m else none)=some m:=h;split at h2
   ·rename_i hl;obtain⟨p,hp,h2⟩:=ag.mp h2;obtain⟨i,hi,h2⟩:=ag.mp h2;obtain⟨me,he,rfl⟩:=aa.mp h2;refine QU C.mono ?_ (C.nu hw) (C.nT hi) (C.t8 hl).1 (C.t8 hl).2 (S.e X c Ξ C _ _ he);cases op<;>first|(cases hp;done)|skip
    ·cases hp;exact .inl ⟨rfl,rfl⟩
    ·cases hp;exact .inr ⟨rfl,rfl⟩
   ·cases h2
  |_=>cases h
 |Expr e p =>
  have h2:(if w9 e then(r.e c e).map MS.expr else none)=some m:=h;split at h2
  ·rename_i hn;obtain⟨me,he,rfl⟩:=aa.mp h2;exact QW hP (S.e X c Ξ C _ _ he) (Bz hn)
  ·cases h2
 |Assign yj e p =>
  rcases yj with _|⟨tg,_|⟨_,_⟩⟩
  ·cases h
  ·exact Vz S C hw hS hT h
  ·cases h
 |If t a b p =>
  obtain⟨mt,ht,h⟩:=ag.mp h;obtain⟨ma,ha,h⟩:=ag.mp h;obtain⟨mb,hb,rfl⟩:=aa.mp h;exact We hP (S.t X c Ξ C _ _ ht) (rB S C hw ha) (rB S C hw hb)
 |For tg it body nN p =>
  have h2:(if c.la&&(nN.isEmpty&&fR it) then(c.tg tg).bind λt=>(xH r c tg it).bind λmi=>(p9 r c body).map λmb=>MS.eF t mi mb else none)=some m:=h;split at h2
  ·rename_i hc;rw[aT,aT] at hc;cases nN<;>first|(cases hc.2.1;done)|skip
   obtain⟨t,h1,h2⟩:=ag.mp h2;obtain⟨mi,h3,h2⟩:=ag.mp h2;obtain⟨mb,h4,rfl⟩:=aa.mp h2;exact OC hP (C.own hc.1) C.calm (DM S C h3) (C.Fe hw h1) (rB S C hw h4) (xp hc.2.2)
  ·cases h2
 |While t body nN p =>
  have h2:(if c.la&&nN.isEmpty then(r.t c t).bind λmt=>(p9 r c body).map λmb=>MS.iU mt mb else none)=some m:=h;split at h2
  ·rename_i hc;rw[aT] at hc;cases nN<;>first|(cases hc.2;done)|skip
   obtain⟨mt,h1,h2⟩:=ag.mp h2;obtain⟨mb,h4,rfl⟩:=aa.mp h2;exact a79 hP (C.own hc.1) (S.t X c Ξ C _ _ h1) (rB S C hw h4)
  ·cases h2
 |Return e p =>
  cases e with
  |none=>cases h;exact(Qv (X:=X)).imp λN bQ H ⟨Z,g,ρ,s,R,h⟩=>LQ.now h R .bc
  |some e =>
   obtain⟨me,he,rfl⟩:=aa.mp (show(r.e c e).map (λm=>MS.ret (toR c e m))=some m from h);refine Ik hP ?_;exact S.e X c Ξ C _ _ he
 |Raise e f p =>
  obtain⟨q,hq,h2⟩:=ag.mp h;clear h;obtain⟨rfl,px,p2,rfl⟩:=Zn hq;obtain⟨x,e,es⟩:=q;dsimp only at h2 ⊢;split at h2
  ·rename_i hc;simp only[Bool.and_eq_true] at hc;obtain⟨ma,ha,rfl⟩:=aa.mp h2;have ok:=Be ha;obtain⟨C',hm,hi,B,nI,iI,bm,O,FB⟩:=C.exc x hc.1.1.2;exact a81 hP C.calm O FB (C.u9 hc.1.2) (sX S C ha) (C.iW hc.1.1.1) (by rw[C.wC];simpa using hc.1.1.2) hi (i9 (ok e (by simp))) (M9 λz hz=>ok z (by simp[hz])) (L0 hc.2).1
  ·cases h2
 |Try body hs el fi p =>
  have h2:(if c.iC&&!hs.isEmpty&&el.isEmpty&&fi.isEmpty then(p9 r { c with iW:=false,iC:=false,wr:=true } body).bind λmb=>(xG c hs).map λms=>MS.nU mb ms else none)=some m:=h;split at h2
  ·rename_i hc;simp only[Bool.and_eq_true] at hc;obtain⟨⟨⟨ht,hh⟩,he⟩,hf⟩:=hc;cases el<;>first|(cases he;done)|skip
   cases fi<;>first|(cases hf;done)|skip
   cases hs<;>first|(cases hh;done)|skip
   obtain⟨eP,hf,zc⟩:=C.iC ht
   ·obtain⟨mb,h1,h2⟩:=ag.mp h2;obtain⟨ms,h3,rfl⟩:=aa.mp h2;refine OD hP (C.sgn hw) (λpins D=>rB S (C.nU hw eP hf pins D _ (λZ hl _=>⟨by rw[vK,hl],λi v z=>?_⟩) λ_=>rfl) rfl h1) (Ry C zc h3);rw[da] at z;split at z<;>cases z
  ·cases h2
 |Pass p=>cases h;exact(Qu (X:=X)).imp λN bQ H ⟨Z,g,ρ,s,R,h⟩=>h ρ H bQ (.refl _ _) R s
 |_=>cases h
end
theorem Zr(h:(comp (n+1)).e c e=some m)(hn:w9 e=false):∃elt gens sc p,e=.ListComp elt gens sc p/\qm (comp n) c elt gens sc=some m:=by
 cases e<;>first|(cases hn;done)|(cases h;done)|exact⟨_,_,_,_,rfl,h⟩
theorem snd:∀n,(∀k,k<=n->oS P (comp k)):=by
 intro n
 induction n with
 |zero =>
  intro k hk;obtain rfl:=Nat.le_zero.mp hk;exact⟨λ_ _ _ _ _ _ h=>(by cases h),λ_ _ _ _ _ _ h=>(by cases h),λ_ _ _ _ _ _ _ h=>(by cases h)⟩
 |succ n ih =>
  intro k hk;rcases gO k (n+1) with dq|Eh
  ·grind
  obtain rfl:k=n+1:=by omega
  have I:=ih n (au n);refine⟨λX c Ξ C e m h=>Lv I C e m h,λX c Ξ C e m h=>Ls I C e m h,λX c Ξ C hw st m h=>?_⟩;rcases orElse_some h with h|h
  rotate_left
  ·cases h;exact λpins s Z H D I q=>by obtain⟨_,_,_,_,_,z⟩:=q;exact(show False from z).elim
  refine Lu I C hw (λe m he hn=>?_) (λa b k p m he=>?_) st m h
  ·cases n with
   |zero=>cases he
   |succ n =>
    obtain⟨elt,gens,sc,p,rfl,hx⟩:=Zr he hn;exact⟨_,_,_,_,rfl,comp n,ih n (),hx⟩
  ·cases n with
   |zero=>cases he
   |succ n =>
    obtain⟨ms,hm,rfl⟩:=aa.mp (show(J1 (comp n) c [a,b]).map (ME.prim .tup)=some m from he);exact⟨comp n,ms,ih n (),hm,rfl⟩
structure nX where
 nm:Str
 qn:Str
 N:List Str
 ps:List Str
 st:Stmt
def d6.at(c:d6)(d:nX):d6:={ c with N:=d.N,nm:=(j9 d.st).names,la:=true,iW:=true,iC:=true,wr:=true }
structure iP(K:PySem.W.Frag)(c:d6)(d:nX)(m:aK)(f:Addr)(fd:FuncData):Prop where
 fn:oU K d.nm d.qn d.st f fd
 bi:Binds K fd d.ps []
 sc:ic d.N d.ps (j9 d.st)
 co:p9 (comp 60) (c.at d) (l3 d.st)=some m.body
 ar:m.ar=d.ps.length
 nn:m.n=d.N.length
structure mh(w:World)(K:PySem.W.Frag)(mg:Str->Option Value)(c:d6)(T:Nat->Option aK):Prop where
 fns:∀x i,c.fns.lookup x=some i->∃d m f fd,T i=some m/\iP K c d m f fd/\mg x=some (.ref f)
 cls:∀x i,c.cls.lookup x=some i->∃C d m f fd,T i=some m/\iP K c d m f fd/\mg x=some (.ref C)/\l5 K x C/\iz K C/\Mk K C f
 my:∀x y i C,(x,y,i)∈c.my->l5 K y C->∃d m f fd,T i=some m/\iP K c d m f fd/\Meth K C x f
 mP:∀f y C,(f,y)∈c.mP->l5 K y C->u6 K C f
 con:∀x d,c.con.lookup x=some d->∃v u,mg x=some u/\RelV v u/\∀ρ H,d0 K ρ H d v
 blt:∀x,c.blt.contains x=true->mg x=none
 Ak:∀x,c.exc.contains x=true->∃C,mg x=some (.ref C)/\l5 K x C/\∀base:Heap,K.In base->base.Ns mainGlobals mg->∃B newId fV bm,OwnCls x C bm newId mg base/\ExcBaseFacts B newId fV bm
 Ai:∀x y C C',c.exc.contains x=true->c.exc.contains y=true->l5 K x C->l5 K y C'->PySem.W.exmOne K (.ref C) (.ref C')=some (decide (x=y\/y="MintError"))
 pT:∀x kvs,c.gd.lookup x=some kvs->∃A vs,mg x=some (.ref A)/\xD K w.params A vs/\oK K kvs vs
section
variable{Pg:Program}{w:World}{K:PySem.W.Frag}{mg:Str->Option Value}{base:Heap}{T:Nat->Option aK}
theorem WW{q:Str}(h:PySem.W.codeIn K cd q=true):PySem.W.kdsCode K cd=true:=by
 unfold PySem.W.codeIn at h;unfold PySem.W.kdsCode;split at h
 ·dsimp only;split at h
  ·rename_i e;rw[e]
  ·cases h
 ·cases h
theorem Qi:Passes (gw Pg w) (nP (gw Pg w) Pg w K mg base N qual scope f cd A outer s H E) E:=λpins Z H1 s1 e s' I h=>by
 obtain⟨C,H',J,fl,hE⟩:=I.flew h;exact ZW J fl (λb o q=>I.base.there b o q (by intro z;cases z)) rfl rfl rfl hE
theorem SI:wU (nP (gw Pg w) Pg w K mg base N qual scope f cd A outer s H E) E:=λpins Z H1 s1 h' ea C vs I hm hE =>
 YO I hm rfl rfl rfl hE
theorem Pm:uO (nP (gw Pg w) Pg w K mg base N qual scope f cd A outer s H E) E:=λpins Z H1 H2 s1 s2 B ea C a0 I l hh hE =>
 leave_held I l hh rfl rfl rfl hE
theorem AS{k:Nat}{m:aK}(hT:T i=some m){ds:List D}{g:G}{Q:KD}{E:KX}(h:b0 T k i ds g Q E):ds.length=m.ar:=by
 cases k with
 |zero=>exact h.elim
 |succ k =>
  obtain⟨m',e,h,_⟩:=h
  simp_all
theorem WB(lK:K.In base)(ug:base.Ns mainGlobals mg)(A:mh w K mg c T):∀(k i:Nat) d m f fd,T i=some m->iP K c d m f fd->fX Pg w K mg base (gw Pg w) (2*k) f fd d.ps (om c.exc K d.ps.length (b0 T k i)):=by
 intro k
 induction k with
 |zero =>
  intro i d m f fd hm O;refine⟨λvs H Q E h=>h.1,λA outer s H args us vs Q E _ _ _ _ h=>?_⟩;obtain⟨_,_,_,_,_,_,q⟩:=h;exact q.elim
 |succ k ih =>
  intro i d m f fd hm O;obtain⟨oc,od,kV,doc,pm,an,fg,ct,kX,rfl,lk,kH⟩:=O.fn.ex;refine Vb (k:=2*k+1) lk kH O.sc (λvs H Q E h=>h.1) (λA0 outer s H vs Q E hr h=>?_);obtain⟨hl,xs,g,ρ,rs,R,q⟩:=h;have C:gx (nP (gw Pg w) Pg w K mg base d.N d.qn (j9 d.st) f fg A0 outer s H E) (c.at d) (b0 T k) (c.exc,E):=by
   refine⟨rfl,O.sc.nd,λx h=>h,λx h=>h,λx h=>.inr h,λx h=>h,λx h=>?_,λ_ _=>rfl,rfl,?_,(λ_=>PassesOwn.leaving),a5 T k,A.con,A.blt,λx j hj=>?_,λx j hj=>?_,λx y j C' hj hC=>?_,A.mP,rfl,Qi,λ_=>SI,λ_=>⟨rfl,rfl,Pm⟩,λx hx=>?_,A.Ai,A.pT,λ_=>WW kH,λ_=>rfl⟩
   ·rcases h with h|h
    ·exact Bc h
    ·exact absurd rfl (O.sc.lE _ (aL h))
   ·have:=hr.un;show(A0.deeper _).units+100<cLine;omega
   ·obtain⟨d',m',f',oH,hT,O',hmg⟩:=A.fns x j hj;exact⟨2*k,f',oH,d'.ps,⟨ih j d' m' f' oH hT O',O'.bi,λES g' Q' E' h'=>(AS hT h').trans O'.ar⟩,hr.mono (),hmg,O'.fn.kp⟩
   ·obtain⟨C',d',m',f',oH,hT,O',hmg,hC,iF,M⟩:=A.cls x j hj;exact⟨2*k,C',f',oH,d'.ps,⟨ih j d' m' f' oH hT O',O'.bi,λES g' Q' E' h'=>(AS hT h').trans O'.ar⟩,hr,hmg,hC,iF,M⟩
   ·obtain⟨d',m',f',oH,hT,O',M⟩:=A.my x y j C' hj hC;exact⟨2*k,f',oH,d'.ps,M,⟨ih j d' m' f' oH hT O',O'.bi,λES g' Q' E' h'=>(AS hT h').trans O'.ar⟩,hr.mono ()⟩
   ·obtain⟨C,h1,h2,h3⟩:=A.Ak x hx;exact⟨C,h1,h2,h3 base lK ug⟩
  refine⟨_,rB (snd (P:=b0 T k) 60 60 (au _)) C rfl O.co,?_⟩;obtain⟨m',e,q1,q⟩:=q;rw[hm] at e;cases e;refine⟨b5 m xs,g,ρ,?_,R,wpS_mono (a5 T k) m.body ⟨λ_ g'=>LQ K ρ H Q .bc g',LQ K ρ H Q,λ_ _=>False,λ_ _=>False⟩ _ _ _ _ _ ⟨λZ g' h bH H' cG e R' s'=>h bH H' _ e R' .bc,λd g' h=>h,λ_ _ h=>h.elim,λ_ _ h=>h.elim⟩ (λ_ _ z=>z) q⟩;have:=k6.start (n:=d.N.length) rs;unfold b5 L2.start;rw[O.nn];exact this
theorem Xb{L k0:Nat}{a:Addr}{ns:List Int}(hO:xu H)(hS:eQ K H a (ns.map V.int))(h:b0 T k0 L [.ref 0] [.nL (ns.map .int)] (λd _=>d=.bl true) iJ) :
  om exc K 1 (b0 T k0 L) [.ref a] H (λv _=>v=.bl true) λ_ _ _=>False:=by
 refine⟨rfl,[.ref 0],[.nL (ns.map .int)],[a],.cons (.ref rfl) .nil,⟨rfl,λi o b h1 h2=>?_,λi j l m b h1 h2 m1=>?_⟩,a5 T k0 _ _ _ _ _ _ _ (λd g' e bH H' v _ _ r=>?_) (λ_ _ z=>z.elim) h⟩
 ·cases i with
  |zero =>
   cases h1;cases h2;refine⟨_,?_,b7.ofInts ns⟩;rcases hS with(z|⟨o,z⟩)|z
   ·rcases hO a with q|⟨o,xs,q⟩
    ·simp_all
    simp_all
   ·exact .inl ⟨o,z⟩
   ·exact .inr z
  |succ i=>simp at h1
 ·cases i with
  |zero=>cases h1;cases m1
  |succ i=>simp at h1
 ·subst e;cases r
  rfl
end
end M
namespace M
open PySem L2
variable{P:eB}{g:G}{Q:KD}{E:KX}{a i n:Nat}{b:Bool}{c f:Str}{o cond elt:ME}{x y d v:D}{cs:List Str}{j:Int}{l:List D}{A B:Prop}{kvs:List (Key×D)}{kg:G->Prop}{ns:List Int}{c7:List Nat}{R:IK->G->Prop}
section
variable{Z:S}{N:Ends}{a b c:ME}{x y:MS}{p:Pr}
theorem Z8(h:N.nx Z g):wpS P .pass N Z g E:=h
theorem Gb(h:wpS P x ⟨λhZ g1=>wpS P y N hZ g1 E,N.rt,N.bk,N.ct⟩ Z g E):wpS P (.seq x y) N Z g E:=h
theorem Iw(h:wpS P x N Z g E):wpS P (.seq x .pass) N Z g E:=h
theorem OS(h:aS P a Z g (λ_ g1=>N.nx Z g1) E):wpS P (.expr a) N Z g E:=h
theorem Gd(h:aS P a Z g (λx g1=>N.nx (Z.set i (some x)) g1) E):wpS P (.set i a) N Z g E:=h
theorem WA{t:MT}(h:aS P a Z g (λx g1=>jh t x Z λhZ=>N.nx hZ g1) E):wpS P (.mr t a) N Z g E:=h
theorem Ri{i:ME}(h:aS P a Z g (λx g1=>aS P o Z g1 (λy g2=>aS P i Z g2 (λz g3=>Y4 y z x g3 λg4=>N.nx Z g4) E) E) E):wpS P (.cN o i a) N Z g E:=h
theorem OV(h:aS P a Z g (λx g1=>aS P o Z g1 (λy g2=>uL f cs y x g2 λg3=>N.nx Z g3) E) E):wpS P (.fC f cs o a) N Z g E:=h
theorem Ir(h:aS P o Z g (λy g1=>∃a' c fs x,y=.ref a'/\g1[a']?=some (.ins c fs)/\c∈cs/\fs.lookup f=some x/\aS P a Z g1 (λz g3=>cF .iadd [x,z] g3 λw g4=>∃iw,g4[a']?=some (.ins c iw)/\iw.length<100/\N.nx Z (g4.set a' (.ins c (i6 f w iw)))) E) E):wpS P (.jx f cs o a) N Z g E:=h
theorem Ga(h:dF P c Z g (λt g1=>if t=true then wpS P x N Z g1 E else wpS P y N Z g1 E) E):wpS P (.ifs c x y) N Z g E:=h
theorem Ww(h:aS P a Z g N.rt E):wpS P (.ret a) N Z g E:=h
theorem Rg{x:Str}(h:fc P a Z g (λvs g1=>vs.length<=1000/\E ⟨x⟩ g1) E):wpS P (.raise x a) N Z g E:=h
theorem Wz{hs:List (Str×ME)}(h:wpS P x N Z g (kA P N (Z.map λ_=>none) E hs)):wpS P (.nU x hs) N Z g E:=h
theorem uF{x:Xn}{y:Str}{e:ME}{r:List (Str×ME)}(hx:x.cls=y)(h:aS P e Z g N.rt iJ):kA P N Z E ((y,e)::r) x g:=by unfold kA;rw[aN (.inl hx)];exact h
theorem K0{x:Xn}{y:Str}{e:ME}{r:List (Str×ME)}(hx:¬(x.cls=y\/y="MintError"))(h:kA P N Z E r x g):kA P N Z E ((y,e)::r) x g:=by unfold kA;rw[aG hx];exact h
theorem w_var(e:Z[i]?=some (some d))(h:Q d g):aS P (.var i) Z g Q E:=by exact⟨d,e,h⟩
theorem w_lit(h:Q d g):aS P (.lit d) Z g Q E:=h
theorem Iv(h:fc P a Z g (λxs g1=>cF p xs g1 Q) E):aS P (.prim p a) Z g Q E:=h
theorem UA(h:cF p [] g Q):aS P (.prim p .nil) Z g Q E:=by exact h
theorem xB(h:aS P a Z g (λx g1=>cF p [x] g1 Q) E):aS P (.prim p (.cons a .nil)) Z g Q E:=by exact h
theorem rG(h:aS P a Z g (λx g1=>aS P b Z g1 (λy g2=>cF p [x,y] g2 Q) E) E):aS P (.prim p (.cons a (.cons b .nil))) Z g Q E:=by exact h
theorem Rb{o1 o2:CmpOp}(h:aS P a Z g (λx g1=>aS P b Z g1 (λy g2=>cF (.cmp o1) [x,y] g2 λz g3=>∃t,z=.bl t/\if t=true then aS P c Z g3 (λw g4=>cF (.cmp o2) [y,w] g4 Q) E else Q (.bl false) g3) E) E):aS P (.chain o1 o2 a b c) Z g Q E:=h
theorem w_and(h:aS P a Z g (λx g1=>∃t,x=.bl t/\if t=true then aS P b Z g1 Q E else Q (.bl false) g1) E):aS P (.dC a b) Z g Q E:=h
theorem w_not(h:aS P a Z g (λx g1=>∃t,x=.bl t/\Q (.bl (!t)) g1) E):aS P (.cO a) Z g Q E:=h
theorem Iu{f:Nat}(h:fc P a Z g (λxs g1=>P f xs g1 Q E) E):aS P (.call f a) Z g Q E:=h
theorem OT{f:Nat}{c:Str}(h:fc P a Z g (λxs g1=>P f (.ref g1.length::xs) (g1++[.ins c []]) (λd g2=>d=.bc/\Q (.ref g1.length) g2) E) E):aS P (.make c f a) Z g Q E:=h
theorem Rc{m:Str}{cs:List (Str×Nat)}(h:aS P o Z g (λx g1=>∃a' c fs f,x=.ref a'/\g1[a']?=some (.ins c fs)/\fs.lookup m=none/\cs.lookup c=some f/\fc P a Z g1 (λxs g2=>P f (x::xs) g2 Q E) E) E):aS P (.bo m cs o a) Z g Q E:=h
theorem OU(h:aS P o Z g (λx g1=>kY p x g1/\fc P a Z g1 (λxs g2=>cF p (x::xs) g2 Q) E) E):aS P (.dI p o a) Z g Q E:=h
theorem Wv(h:fc P a Z (g++[.bC []]) (λxs g1=>∃kvs,rh xs []=some kvs/\xs.length<=30/\g1[g.length]?=some (.bC [])/\Q (.ref g.length) (g1.set g.length (.bC kvs))) E):aS P (.mR a) Z g Q E:=h
theorem Co{Q:List D->G->Prop}(h:Q [] g):fc P .nil Z g Q E:=h
theorem uY{Q:List D->G->Prop}(h:aS P a Z g (λx g1=>fc P b Z g1 (λxs g2=>Q (x::xs) g2) E) E):fc P (.cons a b) Z g Q E:=h
theorem OW{Q:Bool->G->Prop}(h:dF P a Z g (λt g1=>if t=true then dF P b Z g1 Q E else Q false g1) E):dF P (.dC a b) Z g Q E:=h
theorem Wx{Q:Bool->G->Prop}(h:dF P a Z g (λt g1=>if t=true then Q true g1 else dF P b Z g1 Q E) E):dF P (.gX a b) Z g Q E:=h
theorem OX{Q:Bool->G->Prop}(h:dF P a Z g (λt g1=>Q (!t) g1) E):dF P (.cO a) Z g Q E:=h
theorem L4{Q:Bool->G->Prop}(h:Q true g):dF P .no Z g Q E:=h
theorem Ge{Q:Bool->G->Prop}(h:aS P a Z g (λx g1=>oQ g1 x λb=>Q b g1) E):dF P (.dQ a) Z g Q E:=h
end
section
variable{i:Int}{kb:Bool->Prop}{t s:Bool}{m:List D}
theorem UD(h:Q (.int (i+j)) g):cF (.bin .Add) [.int i,.int j] g Q:=⟨_,_,.inl ⟨i,j,_,rfl,rfl,rfl,rfl⟩,h⟩
theorem UE(h:Q (.int (i-j)) g):cF (.bin .Sub) [.int i,.int j] g Q:=⟨_,_,.inl ⟨i,j,_,rfl,rfl,rfl,rfl⟩,h⟩
theorem rJ(c:pX i j)(h:Q (.int (i*j)) g):cF (.bin .Mult) [.int i,.int j] g Q:=⟨_,_,.inl ⟨i,j,_,rfl,⟨c,rfl⟩,rfl,rfl⟩,h⟩
theorem Y2(c:0<j)(h:Q (.int (i % j)) g):cF (.bin .Mod) [.int i,.int j] g Q:=⟨_,_,.inl ⟨i,j,_,rfl,⟨c,rfl⟩,rfl,rfl⟩,h⟩
theorem Fj(c:Ax i j)(h:Q (.int (i / j)) g):cF (.bin .FloorDiv) [.int i,.int j] g Q:=⟨_,_,.inl ⟨i,j,_,rfl,⟨c,rfl⟩,rfl,rfl⟩,h⟩
theorem xE(c:Z7 i j)(h:Q (.int (i ^ j.toNat)) g):cF (.bin .Pow) [.int i,.int j] g Q:=⟨_,_,.inl ⟨i,j,_,rfl,⟨c,rfl⟩,rfl,rfl⟩,h⟩
theorem UI(hl:l.length+m.length<=100000)(h:Q (.tup (l++m)) g):cF (.bin .Add) [.tup l,.tup m] g Q:=⟨_,_,.inr ⟨rfl,.inl ⟨l,m,rfl,hl,rfl,rfl⟩⟩,h⟩
theorem Wu(h:Q (.int (-i)) g):cF (.un .USub) [.int i] g Q:=⟨_,_,⟨rfl,i,rfl,rfl,rfl⟩,h⟩
theorem Z4{op:CmpOp}(hb:Gi g x y b op)(h:Q (.bl b) g):cF (.cmp op) [x,y] g Q:=⟨_,_,⟨x,y,b,rfl,hb,rfl,rfl⟩,h⟩
theorem SX(h:Q (.bl (decide (i<j))) g):cF (.cmp .Lt) [.int i,.int j] g Q:=Z4 ⟨i,j,rfl,rfl,rfl⟩ h
theorem SW(h:Q (.bl (decide (i<=j))) g):cF (.cmp .LtE) [.int i,.int j] g Q:=Z4 ⟨i,j,rfl,rfl,rfl⟩ h
theorem SV(h:Q (.bl (decide (j<i))) g):cF (.cmp .Gt) [.int i,.int j] g Q:=Z4 ⟨i,j,rfl,rfl,rfl⟩ h
theorem SU(h:Q (.bl (decide (j<=i))) g):cF (.cmp .GtE) [.int i,.int j] g Q:=Z4 ⟨i,j,rfl,rfl,rfl⟩ h
theorem xw(h:qW g x y λb=>Q (.bl b) g):cF (.cmp .Eq) [x,y] g Q:=let ⟨_,hb,h⟩:=h;Z4 hb h
theorem AG(h:qW g x y λb=>Q (.bl (!b)) g):cF (.cmp .NotEq) [x,y] g Q:=let ⟨b,hb,h⟩:=h;Z4 (b:=!b) (show uk g x y (!(!b)) from by simp_all) h
theorem rg(h:mD g x y λb=>Q (.bl b) g):cF (.cmp .In) [x,y] g Q:=let ⟨_,hb,h⟩:=h;Z4 (.inl hb) h
theorem UM{S:Int->Bool}(hg:g[a]?=some (.set S n))(h:Q (.bl (S i)) g):cF (.cmp .In) [.int i,.ref a] g Q:=Z4 (.inr ⟨a,S,n,i,rfl,hg,rfl,rfl⟩) h
theorem P5(h:mD g x y λb=>Q (.bl (!b)) g):cF (.cmp .NotIn) [x,y] g Q:=let ⟨b,hb,h⟩:=h;Z4 (b:=!b) (.inl (show inR g x y (!(!b)) from by simp_all)) h
theorem FO(h:kb (decide (i=j))):qW g (.int i) (.int j) kb:=⟨_,.inl ⟨i,j,rfl,rfl,rfl⟩,h⟩
theorem GA(h:kb (t==s)):qW g (.bl t) (.bl s) kb:=⟨_,.inr (.inl ⟨t,s,rfl,rfl,rfl⟩),h⟩
theorem VT{x y:Str}(h:kb (decide (x=y))):qW g (.str x) (.str y) kb:=⟨_,.inr (.inr (.inl ⟨x,y,rfl,rfl,rfl⟩)),h⟩
theorem UK(h:Q (.bl (decide (i=j))) g):cF (.cmp .Eq) [.int i,.int j] g Q:=xw (FO h)
theorem Fu(h:Q (.bl (!decide (i=j))) g):cF (.cmp .NotEq) [.int i,.int j] g Q:=AG (FO h)
theorem UJ(h:Q (.bl (t==s)) g):cF (.cmp .Eq) [.bl t,.bl s] g Q:=xw (GA h)
theorem UT(h:Q (.bl (!(t==s))) g):cF (.cmp .NotEq) [.bl t,.bl s] g Q:=AG (GA h)
theorem UL{p q:Str}(h:Q (.bl (decide (p=q))) g):cF (.cmp .Eq) [.str p,.str q] g Q:=xw (VT h)
theorem qa(h:Q (.bl (T1 d)) g):cF (.cmp .Is) [d,.bc] g Q:=Z4 ⟨rfl,rfl⟩ h
theorem UN(h:Q (.bl true) g):cF (.cmp .Is) [.bc,.bc] g Q:=qa h
theorem UP(h:Q (.bl false) g):cF (.cmp .Is) [.int i,.bc] g Q:=qa h
theorem UO(h:Q (.bl false) g):cF (.cmp .Is) [.bl t,.bc] g Q:=qa h
theorem UR{x:Str}(h:Q (.bl false) g):cF (.cmp .Is) [.str x,.bc] g Q:=qa h
theorem US(h:Q (.bl false) g):cF (.cmp .Is) [.tup l,.bc] g Q:=qa h
theorem UQ(h:Q (.bl false) g):cF (.cmp .Is) [.ref n,.bc] g Q:=qa h
theorem CU(h:kb t):oQ g (.bl t) kb:=⟨t,.inr (.inl rfl),h⟩
theorem Wm(h:kb (i != 0)):oQ g (.int i) kb:=⟨_,.inr (.inr (.inl ⟨i,rfl,rfl⟩)),h⟩
theorem wW{p:Bool->Prop}(h:p t):∃s,D.bl t=D.bl s/\p s:=⟨t,rfl,h⟩
theorem WS{p:Int->Prop}(h:p i):∃s,D.int i=D.int s/\p s:=⟨i,rfl,h⟩
theorem if2{c:Prop}[Decidable c](h1:c->A)(h2:¬c->B):if decide c=true then A else B:=by
 simp_all
theorem ji(h:A):if true=true then A else B:=by rw[aN rfl];exact h
theorem oO(h:B):if false=true then A else B:=by rw[aG ∅];exact h
theorem Gq(h:A):if(!false)=true then A else B:=by exact h
theorem Tg(h:B):if(!true)=true then A else B:=by rw[aG ∅];exact h
theorem eO(hb:b=false)(h:B):if b=true then A else B:=by rw[hb];exact oO h
theorem fF(hb:b=true)(h:A):if b=true then A else B:=by rw[hb];exact ji h
theorem O2(hl:c9 g a=some l)(h2:iH l i=some d)(h:Q d g):cF .ix [.ref a,.int i] g Q:=⟨_,_,⟨rfl,.inl ⟨_,l,i,rfl,hl,h2⟩⟩,h⟩
theorem K6(h2:iH l i=some d)(h:Q d g):cF .ix [.tup l,.int i] g Q:=⟨_,_,⟨rfl,.inl ⟨_,l,i,rfl,rfl,h2⟩⟩,h⟩
theorem j0{i:Nat}{k:Key}(hg:g[i]?=some (.bC kvs))(hk:U6 y=some k)(hv:m5 kvs k=some v)(h:Q v g):cF .ix [.ref i,y] g Q:=⟨_,_,⟨rfl,.inr (.inl ⟨i,kvs,y,k,rfl,hg,hk,hv⟩)⟩,h⟩
theorem rQ(hl:g[a]?=some (.lst l))(hn:mz l.length i=some n)(h:kg (g.set a (.lst (l.set n v)))):Y4 (.ref a) (.int i) v g kg:=⟨_,.inl ⟨a,i,l,n,rfl,rfl,hl,hn,rfl⟩,h⟩
theorem ql{i:Nat}{k:Key}(hg:g[i]?=some (.bC kvs))(hk:U6 y=some k)(hl:kvs.length<100000)(h:kg (g.set i (.bC (putD kvs k v)))):Y4 (.ref i) y v g kg:=⟨_,.inr ⟨i,kvs,k,rfl,hg,hk,hl,rfl⟩,h⟩
theorem K4{fs:List (Str×D)}(hg:g[a]?=some (.ins c fs))(hc:c∈cs)(hl:fs.length<100)(h:kg (g.set a (.ins c (i6 f v fs)))):uL f cs (.ref a) v g kg:=⟨_,⟨a,c,fs,rfl,hg,hc,hl,rfl⟩,h⟩
theorem n9{fs:List (Str×D)}(hg:g[a]?=some (.ins c fs))(hf:fs.lookup f=some d)(h:Q d g):cF (.fld f) [.ref a] g Q:=⟨_,_,⟨a,c,fs,rfl,hg,hf,rfl⟩,h⟩
theorem a4(h:g[a]?=some (.lst l)):c9 g a=some l:=by simp only[c9,h,Cu]
theorem a35(h:g[a]?=some (.nL l)):c9 g a=some l:=by simp only[c9,h,Cu]
theorem uH(hl:c9 g a=some l)(h:Q (.int l.length) g):cF .len [.ref a] g Q:=⟨_,_,⟨rfl,.inl ⟨_,l,rfl,hl,rfl⟩⟩,h⟩
theorem Cb(hl:g[a]?=some (.bC kvs))(h:Q (.int kvs.length) g):cF .len [.ref a] g Q:=⟨_,_,⟨rfl,.inr (.inl ⟨a,kvs,rfl,hl,rfl⟩)⟩,h⟩
theorem Ot(hl:c9 g a=some l)(h:Q (.ref g.length) (g++[.lst (cut l none (some i))])):cF (.nk false true) [.ref a,.int i] g Q:=⟨_,_,⟨_,i,rfl,.inr ⟨a,l,rfl,hl,rfl,rfl⟩⟩,h⟩
theorem xO(hl:l.length<=1000)(h:Q (.tup l) g):cF .tup l g Q:=⟨_,_,⟨hl,rfl,rfl⟩,h⟩
theorem uK(hl:l.length<=1000)(h:Q (.ref g.length) (g++[.lst l])):cF .lst l g Q:=⟨_,_,⟨hl,rfl,rfl⟩,h⟩
theorem Vw(hl:c9 g a=some l)(h:Q (.ref g.length) (g++[.lst l])):cF .list [.ref a] g Q:=⟨_,_,.inl ⟨_,l,rfl,hl,rfl,rfl⟩,h⟩
theorem X3(hg:g[a]?=some (.bC kvs))(hz:kvs.length<=10000)(h:Q (.ref g.length) (g++[.lst ((kvs.map (·.1)).map kD)])):cF .list [.ref a] g Q:=⟨_,_,.inr ⟨a,kvs,rfl,hg,hz,rfl,rfl⟩,h⟩
theorem Vx(h:Q (.ref g.length) (g++[.lst l])):cF .list [.tup l] g Q:=⟨_,_,.inl ⟨_,l,rfl,rfl,rfl,rfl⟩,h⟩
theorem fT{c:String}(hc:c∈["int","bool","str","tuple","list"])(hb:qb g d c=some b)(h:Q (.bl b) g):cF .isin [d,.ty c] g Q:=⟨_,_,⟨d,c,b,rfl,hc,hb,rfl,rfl⟩,h⟩
theorem Cg{i:Nat}(hg:g[i]?=some (.lst l))(hl:l.length<100000)(h:Q .bc (g.set i (.lst (l++[y])))):cF .append [.ref i,y] g Q:=⟨_,_,⟨i,y,l,rfl,hg,hl,rfl,rfl⟩,h⟩
theorem Km(hl:c9 g a=some l):kY .index (.ref a) g:=⟨a,l,rfl,hl⟩
theorem FI(hl:c9 g a=some l)(W:wH l y n)(hz:l.length<=100000)(h:Q (.int n) g):cF .index [.ref a,y] g Q:=⟨_,_,⟨_,y,l,n,rfl,hl,W,hz,rfl,rfl⟩,h⟩
theorem Kj(h:Q (.int (i+j)) g):cF .iadd [.int i,.int j] g Q:=⟨_,_,.inl ⟨i,j,rfl,rfl,rfl⟩,h⟩
theorem IW{i:Nat}(hg:g[i]?=some (.bC kvs))(hk:kvs.map (·.1)=ns.map Sum.inl)(hz:ns.length<60)(h:Q (.ref g.length) (g++[.lst ((j5 ns).map .int)])):cF .dR [.ref i] g Q:=⟨_,_,.inl ⟨i,kvs,ns,rfl,hg,hk,hz,rfl,rfl⟩,h⟩
theorem Qh{i:Nat}(hl:c9 g i=some (ns.map .int))(hz:ns.length<60)(h:Q (.ref g.length) (g++[.lst ((L7 ns).map .int)])):cF .dR [.ref i] g Q:=⟨_,_,.inr ⟨_,ns,rfl,hl,hz,rfl,rfl⟩,h⟩
theorem Kl{i:Nat}(hg:g[i]?=some (.lst l)):kY .append (.ref i) g:=⟨i,l,rfl,a4 hg⟩
theorem R7(h:Q (.ref g.length) (g++[.bC []])):cF .R7 [] g Q:=⟨_,_,⟨rfl,rfl,rfl⟩,h⟩
theorem Xh{S:Int->Bool}(hg:g[a]?=some (.set S n))(hn:n+1<4096)(h:Q .bc (g.set a (.set (λk=>S k||decide (k=i)) (if S i then n else n+1)))):cF .jo [.ref a,.int i] g Q:=⟨_,_,⟨a,i,S,n,rfl,hg,hn,rfl,rfl⟩,h⟩
theorem PQ{S:Int->Bool}(hg:g[a]?=some (.set S n)):kY .jo (.ref a) g:=⟨a,S,n,rfl,hg⟩
theorem Xw(hg:g[a]?=some (.lst (ns.map .int)))(hl:ns.length<1000)(nd:ns.Nodup)(h:Q (.ref g.length) (g++[.bC (oN ns)])):cF .kL [.ref a] g Q:=⟨_,_,⟨a,ns,rfl,hg,hl,nd,rfl,rfl⟩,h⟩
theorem Xx{n:Int}{fs:List (Key×Int×Int)}(hg:g[a]?=some (.bC (fs.map kK)))(hl:fs.length<1000)(nd:(fs.map (·.1)).Nodup)(h:Q (.ref g.length) (g++[.bC ((fs.filter (X7 n)).map kK)])):cF .lY [.ref a,.int n] g Q:=⟨_,_,⟨a,n,fs,rfl,hg,hl,nd,rfl,rfl⟩,h⟩
theorem uV{c:Key}(hg:g[a]?=some (.bC kvs))(hk:U6 y=some c)(hv:m5 kvs c=some d)(h:Q d (g.set a (.bC (delD kvs c)))):cF .ir [.ref a,y] g Q:=⟨_,_,⟨a,y,kvs,c,rfl,hg,hk,hv,rfl⟩,h⟩
theorem uI(hg:g[a]?=some (.bC kvs)):kY .ir (.ref a) g:=⟨a,kvs,rfl,hg⟩
theorem Qg(h:Q (.ref g.length) (g++[.set (λk=>decide (k=i)) 1])):cF (.jn i) [] g Q:=⟨_,_,⟨rfl,rfl,rfl⟩,h⟩
theorem FV(hl:c9 g a=some (ns.map .int))(h:Q (.int ns.sum) g):cF .sum [.ref a] g Q:=⟨_,_,⟨a,ns,rfl,hl,rfl,rfl⟩,h⟩
theorem UG(hl:c9 g a=some (ns.map .int))(h:Q (.bl (ns.all λn=>n != 0)) g):cF .all [.ref a] g Q:=⟨_,_,⟨a,_,_,rfl,hl,.inr ⟨ns,rfl,rfl⟩,rfl,rfl⟩,h⟩
theorem BV(c:Z7 i j)(h:Q (.int (i*2 ^ j.toNat)) g):cF (.bin .LShift) [.int i,.int j] g Q:=⟨_,_,.inl ⟨i,j,_,rfl,⟨c,rfl⟩,rfl,rfl⟩,h⟩
theorem uC(h:Q (.int (Builtin.bitAnd i j)) g):cF (.bin .BitAnd) [.int i,.int j] g Q:=⟨_,_,.inl ⟨i,j,_,rfl,rfl,rfl,rfl⟩,h⟩
theorem SM(h:Q (.int (Builtin.bitOr i j)) g):cF (.bin .BitOr) [.int i,.int j] g Q:=⟨_,_,.inl ⟨i,j,_,rfl,rfl,rfl,rfl⟩,h⟩
theorem Vh{v:Bool}(h:Q (.int (if v then 1 else 0)) g):cF .int [.bl v] g Q:=⟨_,_,⟨rfl,.inr ⟨v,rfl,rfl⟩⟩,h⟩
theorem FA{kvs:List D}{x:Str}(hv:P2 kvs x=some v)(h:Q v g):cF .lX [.tup kvs,.str x] g Q:=⟨_,_,⟨kvs,x,rfl,hv,rfl⟩,h⟩
theorem BW{i:Nat}{v:Bool}(hl:c9 g i=some l)(hv:Y1 l=some v)(h:Q (.bl v) g):cF .all [.ref i] g Q:=⟨_,_,⟨i,l,v,rfl,hl,.inl hv,rfl,rfl⟩,h⟩
theorem j3{i:Nat}{Z:S}{k:S->Prop}(h:k (Z.set i (some x))):jh (.one i) x Z k:=h
theorem G9{is:List Nat}{Z bT:S}{k:S->Prop}(e:P9 is l Z=some bT)(h:k bT):jh (.many is) (.tup l) Z k:=⟨l,bT,rfl,e,h⟩
end
theorem Br:∀(bs:List Bool),Y1 (bs.map D.bl)=some (bs.all id):=by
 intro bs
 induction bs with
 |nil=>rfl
 |cons b r ih=>simp[Y1,ih]
theorem call_of{T:Nat->Option aK}{k f:Nat}{m:aK}{ds:List D}(hT:T f=some m)(hl:ds.length=m.ar)(h:wpS (b0 T k) m.body ⟨λ_ g'=>Q .bc g',Q,λ_ _=>False,λ_ _=>False⟩ (b5 m ds) g E):b0 T (k+1) f ds g Q E:=⟨m,hT,hl,h⟩
theorem j6{Z:S}{a:ME}{f:Nat}{m:Str}{fs:List (Str×D)}{cs:List (Str×Nat)}(hg:g[i]?=some (.ins c fs))(hf:fs.lookup m=none)(hc:cs.lookup c=some f)(h:fc P a Z g (λxs g2=>P f (.ref i::xs) g2 Q E) E) :
  ∃a' c fs f,D.ref i=.ref a'/\g[a']?=some (.ins c fs)/\fs.lookup m=none/\cs.lookup c=some f/\fc P a Z g (λxs g2=>P f (.ref i::xs) g2 Q E) E:=⟨i,c,fs,f,rfl,hg,hf,hc,h⟩
def IK.Is(k:IK)(l:List D)(g:G):Prop:=∀i,k.at i g=some l[i]?
theorem J9:(IK.fix l).Is l g:=λ_=>rfl
theorem l6(h:c9 g a=some l):(IK.lst a).Is l g:=λi=>by simp only[IK.at,h]
def lg(l:List D):List D:=l.mapIdx λi d=>.tup [.int i,d]
theorem wM(h:c9 g a=some l):(IK.nM a).Is (lg l) g:=λi=>by
 simp only[IK.at,h,lg,List.getElem?_mapIdx]
theorem WU(h:c9 g a=some l):(IK.qy a l.length).Is l.reverse g:=λi=>by
 simp only[IK.at,h,if_true];by_cases hi:i<l.length
 ·rw[aN hi,List.getElem?_reverse hi]
 ·rw[aG hi,ba (by simpa using hi)]
theorem O5(l:List D):(lg l).length=l.length:=by simp[lg]
theorem wX(h:(lg l)[i]?=some x):∃d,l[i]?=some d/\x=.tup [.int i,d]:=by
 rw[lg,List.getElem?_mapIdx,aa] at h;obtain⟨d,h1,h2⟩:=h;exact⟨d,h1,h2.symm⟩
theorem N1{lo:Int}(h:(z9 lo n)[i]?=some x):i<n/\x=.int (lo+i):=by
 unfold z9 at h;have hi:i<n:=by
  have:=(ao.mp h).1;simpa using this
 rw[ah,dN hi] at h;cases h;exact⟨hi,rfl⟩
theorem H9(lo:Int)(n:Nat):(z9 lo n).length=n:=by simp[z9]
section
variable{Z:S}{N:Ends}{it a c:ME}{s:MS}{t:MT}
theorem a75{k:IK}{fin:S->G->Prop}{turn:D->(S->G->Prop)->S->G->Prop}(I:Nat->S->G->Prop)(hk:∀i Z g,I i Z g->k.Is l g)(h0:I 0 Z g)(hs:∀i x Z g,l[i]?=some x->I i Z g->turn x (I (i+1)) Z g)(hd:∀Z g,I l.length Z g->fin Z g):turns k Z g fin turn:=by
 refine⟨λi m Z g=>m=l.length-i/\i<=l.length/\I i Z g,⟨l.length,by simp,cc _,h0⟩,?_⟩;rintro i m Z g ⟨rfl,hi,p⟩;rw[hk i Z g p i];by_cases dq:i<l.length
 ·rw[ak dq];exact .inr ⟨_,rfl,I (i+1),λbT g' p'=>⟨l.length-(i+1),by omega,rfl,dq,p'⟩,hs i l[i] Z g (ak dq) p⟩
 ·have e:i=l.length:=by omega
  subst e;rw[ba (au _)];exact .inl ⟨rfl,hd Z g p⟩
inductive vC(P:eB)(t:MT)(s:MS)(N:Ends)(E:KX)(Z:S)(k:IK)(g1:G):Prop
 |mk (l:List D) (I:Nat->S->G->Prop) (hk:∀i Z g,I i Z g->k.Is l g) (h0:I 0 Z g1)
   (hs:∀i x Z g,l[i]?=some x->I i Z g->jh t x Z λcb=>wpS P s ⟨I (i+1),N.rt,N.nx,I (i+1)⟩ cb g E) (hd:∀Z g,I l.length Z g->N.nx Z g):vC P t s N E Z k g1
theorem K3(hP:f9 P)(h:gb P it Z g (vC P t s N E Z) E):wpS P (.eF t it s) N Z g E :=
 w5 hP it _ _ _ _ _ _ (λk g1 hq=>by obtain⟨l,I,hk,h0,hs,hd⟩:=hq;exact a75 I hk h0 hs hd) (λ_ _ z=>z) h
inductive CompI(P:eB)(t:MT)(cond elt:ME)(E:KX)(Q:KD)(Z:S)(k:IK)(g1:G):Prop
 |mk (l:List D) (I:Nat->List D->S->G->Prop) (hl:l.length<=1000) (hk:∀i ys Z g,I i ys Z g->k.Is l g/\ys.length<=i) (h0:I 0 [] Z g1)
   (hs:∀i x ys Z g,l[i]?=some x->I i ys Z g->jh t x Z λcb=>dF P cond cb g (λc g3=>if c=true then aS P elt cb g3 (λy g4=>I (i+1) (ys++[y]) cb g4) E else I (i+1) ys cb g3) iJ)
   (hd:∀ys Z g,I l.length ys Z g->Q (.ref g.length) (g++[.lst ys])):CompI P t cond elt E Q Z k g1
theorem P7(hP:f9 P)(h:gb P it Z g (CompI P t cond elt iJ Q (K5 Z c7 n)) E):aS P (.comp c7 n t it cond elt) Z g Q E:=by
 refine w5 hP it _ _ _ _ _ _ (λk g1 h=>?_) (λ_ _ z=>z) h;obtain⟨l,I,hl,hk,h0,hs,hd⟩:=h;refine⟨λi m ys Z g=>m=l.length-i/\i<=l.length/\I i ys Z g,⟨l.length,by simp,cc _,h0⟩,?_⟩;rintro i m ys Z g ⟨rfl,hi,p⟩;obtain⟨oq,hy⟩:=hk i ys Z g p;rw[oq i];by_cases dq:i<l.length
 ·rw[ak dq];refine .inr ⟨_,rfl,by omega,u1 (λcb q=>m4 hP cond _ _ _ _ _ _ (λc g3 q=>?_) (λ_ _ z=>z) q) (hs i l[i] ys Z g (ak dq) p)⟩;cases c
  ·exact⟨l.length-(i+1),by omega,rfl,dq,by simpa using(show I (i+1) ys cb g3 from q)⟩
  ·exact b8 hP elt _ _ _ _ _ _ (λy g4 q=>⟨l.length-(i+1),by omega,rfl,dq,by simpa using q⟩) (λ_ _ z=>z) q
 ·have e:i=l.length:=by omega
  subst e;rw[ba (au _)];exact .inl ⟨rfl,hd ys Z g p⟩
inductive vt(P:eB)(t:MT)(cond elt:ME)(Q:KD)(Z:S)(k:IK)(g1:G):Prop
 |mk (l:List D) (I:Nat->List Int->S->G->Prop) (hl:l.length<60) (hk:∀i ys Z g,I i ys Z g->k.Is l g/\ys.length<=i) (h0:I 0 [] Z g1)
   (hs:∀i x ys Z g,l[i]?=some x->I i ys Z g->jh t x Z λcb=>dF P cond cb g (λc g3=>if c=true then aS P elt cb g3 (λy g4=>∃j,y=.int j/\I (i+1) (ys++[j]) cb g4) iJ else I (i+1) ys cb g3) iJ)
   (hd:∀ys Z g,I l.length ys Z g->Q (.ref g.length) (g++[.lst ((j5 ys).map .int)])):vt P t cond elt Q Z k g1
theorem Rh(hP:f9 P)(h:gb P it Z g (vt P t cond elt Q (K5 Z c7 n)) E):aS P (.gp c7 n t it cond elt) Z g Q E:=by
 refine w5 hP it _ _ _ _ _ _ (λk g1 h=>?_) (λ_ _ z=>z) h;obtain⟨l,I,hl,hk,h0,hs,hd⟩:=h;refine⟨λi m ys Z g=>m=l.length-i/\i<=l.length/\I i ys Z g,⟨l.length,by simp,cc _,h0⟩,?_⟩;rintro i m ys Z g ⟨rfl,hi,p⟩;obtain⟨oq,hy⟩:=hk i ys Z g p;rw[oq i];by_cases dq:i<l.length
 ·rw[ak dq];refine .inr ⟨_,rfl,by omega,u1 (λcb q=>m4 hP cond _ _ _ _ _ _ (λc g3 q=>?_) (λ_ _ z=>z) q) (hs i l[i] ys Z g (ak dq) p)⟩;cases c
  ·exact⟨l.length-(i+1),by omega,rfl,dq,by simpa using(show I (i+1) ys cb g3 from q)⟩
  ·refine b8 hP elt _ _ _ _ _ _ (λy g4 q=>?_) (λ_ _ z=>z) q;obtain⟨j,e,q⟩:=q;exact⟨j,e,l.length-(i+1),by omega,rfl,dq,by simpa using q⟩
 ·have e:i=l.length:=by omega
  subst e;rw[ba (au _)];exact .inl ⟨rfl,by omega,hd ys Z g p⟩
theorem Zm(hP:f9 P)(h:aS P a Z g (λx g1=>∃j:Nat,x=.int j/\j<=1000/\∃I:Nat->List D->S->G->Prop,I 0 [] (K5 Z c7 n) g1/\(∀i ys Z g,I i ys Z g->ys.length<=i) /\
      (∀(i:Nat) ys Z g,i<j->I i ys Z g->jh t (.int i) Z λcb=>dF P cond cb g (λc g3=>if c=true then aS P elt cb g3 (λy g4=>I (i+1) (ys++[y]) cb g4) iJ else I (i+1) ys cb g3) iJ) /\
      ∀ ys Z g,I j ys Z g->Q (.ref g.length) (g ++ [.lst ys])) E):aS P (.comp c7 n t (.fk a) cond elt) Z g Q E:=by
  refine P7 hP ?_;refine b8 hP a _ _ _ _ _ _ (λx g1 h=>?_) (λ_ _ z=>z) h;obtain⟨j,rfl,hj,I,h0,hz,hs,hd⟩:=h;refine⟨j,rfl,by omega,by omega,_,I,by rw[H9];simpa using hj,λi ys Z g p=>⟨J9,hz i ys Z g p⟩,h0,λi x ys Z g hx p=>?_,λys Z g p=>hd ys Z g (by rw[H9] at p;simpa using p)⟩;obtain⟨hi,rfl⟩:=N1 hx;rw[show(0:Int)+(i:Int)=i by omega];exact hs i ys Z g (by simpa using hi) p
theorem vj(hP:f9 P)(h:aS P a Z g (λx g1=>∃j:Int,x=.int j/\-(2 ^ 62)<=j/\j<2 ^ 62/\R (.fix (z9 0 j.toNat)) g1) E):gb P (.fk a) Z g R E:=h
theorem yF(hP:f9 P)(h:aS P a Z g (λx g1=>∃l,x=.tup l/\R (.fix l) g1) E):gb P (.eN a) Z g R E:=by
 exact b8 hP a _ _ _ _ _ _ (λx g1 h=>.inl h) (λ_ _ z=>z) h
theorem jC(hP:f9 P)(h:aS P a Z g (λx g1=>∃i l,x=.ref i/\c9 g1 i=some l/\R (.lst i) g1) E):gb P (.eN a) Z g R E:=by
 exact b8 hP a _ _ _ _ _ _ (λx g1 h=>.inr h) (λ_ _ z=>z) h
theorem LF(h:aS P a Z g (λx g1=>∃i l,x=.ref i/\c9 g1 i=some l/\R (.qy i l.length) g1) E):gb P (.mB a) Z g R E:=h
theorem yG(h:aS P a Z g (λx g1=>∃i l,x=.ref i/\c9 g1 i=some l/\R (.nM i) g1) E):gb P (.jQ a) Z g R E:=h
end
end M
namespace M
open PySem L2 PySem.Spec PyProof.Rows
variable{K:PySem.W.Frag}{x:Str}{C:Addr}
structure RF where
 id:Nat
 nm:Str
 N:List Str
 k:Nat
 i:Nat
 m:aK
structure RM where
 id:Nat
 cl:Str
 nm:Str
 qn:Str
 N:List Str
 k:Nat
 i:Nat
 j:Nat
 m:aK
def RF.d(tp:Nat->Stmt)(r:RF):nX:=⟨r.nm,r.nm,r.N,r.N.take r.k,tp r.i⟩
def RM.d(mt:Nat->Nat->Stmt)(r:RM):nX:=⟨r.nm,r.qn,r.N,r.N.take r.k,mt r.i r.j⟩
def rF(F:List RF)(M:List RM)(i:Nat):Option aK:=match F.find? λr=>Nat.beq r.id i with
 |some r=>some r.m
 |none=>(M.find? λr=>Nat.beq r.id i).map (·.m)
section
variable(tp:Nat->Stmt)(mt:Nat->Nat->Stmt)(K:PySem.W.Frag)
def PF:List RF->Prop
 |[]=>True
 |r::l=>(∃f fd,PySem.W.nsIn K mainGlobals r.nm=some (some (.ref f))/\oU K r.nm r.nm (tp r.i) f fd)/\PF l
def PM:List RM->Prop
 |[]=>True
 |r::l=>(∃C f fd,PySem.W.nsIn K mainGlobals r.cl=some (some (.ref C))/\Meth K C r.nm f/\oU K r.nm r.qn (mt r.i r.j) f fd)/\PM l
def PC:List (Str×Nat)->Prop
 |[]=>True
 |r::l=>(∃C,PySem.W.nsIn K mainGlobals r.1=some (some (.ref C))/\iz K C/\PySem.W.makesIn K C=true/\PySem.W.keepIn K (.ref C)=true)/\PC l
def PA:List (Str×Str)->Prop
 |[]=>True
 |r::l=>(∃C,PySem.W.nsIn K mainGlobals r.2=some (some (.ref C))/\PySem.W.findIn K (.ref C) r.1=some none)/\PA l
def PB:List Str->Prop
 |[]=>True
 |r::l=>PySem.W.nsIn K mainGlobals r=some none/\PB l
def PX:List Str->Prop
 |[]=>True
 |r::l=>(∃C,PySem.W.nsIn K mainGlobals r=some (some (.ref C))/\PySem.W.excIn K C [.type "ValueError",.type "Exception",.type "BaseException",.type "object"] "ValueError.__new__"=true)/\PX l
def BF:List RF->Prop
 |[]=>True
 |r::l=>(∀(kV doc pm:Value) (an:Option Addr) (fg ct:Value) (us:List Value),us.length=(r.N.take r.k).length->bindArgs (PySem.W.fnOf r.nm r.nm (y9 (tp r.i)) (l3 (tp r.i)) (j9 (tp r.i)) .none kV doc pm an fg ct) ⟨us,[]⟩=pure ((r.N.take r.k).zip us))/\BF l
def BM:List RM->Prop
 |[]=>True
 |r::l=>(∀(kV doc pm:Value) (an:Option Addr) (fg ct:Value) (us:List Value),us.length=(r.N.take r.k).length->bindArgs (PySem.W.fnOf r.nm r.qn (y9 (mt r.i r.j)) (l3 (mt r.i r.j)) (j9 (mt r.i r.j)) .none kV doc pm an fg ct) ⟨us,[]⟩=pure ((r.N.take r.k).zip us))/\BM l
def YF(c:d6):List RF->Prop
 |[]=>True
 |r::l=>p9 (comp 60) (c.at (r.d tp)) (l3 (tp r.i))=some r.m.body/\YF c l
def YM(c:d6):List RM->Prop
 |[]=>True
 |r::l=>p9 (comp 60) (c.at (r.d mt)) (l3 (mt r.i r.j))=some r.m.body/\YM c l
end
section
variable{tp:Nat->Stmt}{mt:Nat->Nat->Stmt}{c:d6}{id k i j:Nat}{cl nm qn:Str}{N:List Str}{m:aK}{f:Addr}{oc kV doc pm fg ct:Value}{od an:Option Addr}{kX:Array (Option Value)}
theorem PF.nil:PF tp K []:=trivial
theorem PF.cons{l:List RF}(a:PySem.W.nsIn K mainGlobals nm=some (some (.ref f)))(lk:K.lookup f=some ⟨oc,od,.func (PySem.W.fnOf nm nm (y9 (tp i)) (l3 (tp i)) (j9 (tp i)) .none kV doc pm an fg ct),kX⟩)(cd:PySem.W.codeIn K fg nm=true)(kp:PySem.W.keepIn K (.ref f)=true)(h:PF tp K l):PF tp K (⟨id,nm,N,k,i,m⟩::l):=⟨⟨f,_,a,Ki lk cd kp⟩,h⟩
theorem PM.nil:PM mt K []:=trivial
theorem PM.cons{l:List RM}(c0:PySem.W.nsIn K mainGlobals cl=some (some (.ref C)))(a:PySem.W.findIn K (.ref C) nm=some (some (.ref f)))(af:PySem.W.isFn K (.ref f)=true)(lk:K.lookup f=some ⟨oc,od,.func (PySem.W.fnOf nm qn (y9 (mt i j)) (l3 (mt i j)) (j9 (mt i j)) .none kV doc pm an fg ct),kX⟩)(cd:PySem.W.codeIn K fg qn=true)(kp:PySem.W.keepIn K (.ref f)=true)(h:PM mt K l):PM mt K (⟨id,cl,nm,qn,N,k,i,j,m⟩::l):=⟨⟨C,f,_,c0,⟨a,af,kp⟩,Ki lk cd kp⟩,h⟩
theorem PC.nil:PC K []:=trivial
theorem PC.cons{l:List (Str×Nat)}(cn:PySem.W.nsIn K mainGlobals x=some (some (.ref C)))(cp:PySem.W.plainGet K C Str.empty=true)(NX:PySem.W.hasDictIn K C=true)(NU:PySem.W.plainOver K C=true)(NT:PySem.W.findIn K (.ref C) "__setattr__"=some (some (.builtin "object.__setattr__")))(NV:PySem.W.makesIn K C=true)(NW:PySem.W.keepIn K (.ref C)=true)(h:PC K l):PC K ((x,i)::l):=⟨⟨C,cn,⟨cp,NX,NU,NT⟩,NV,NW⟩,h⟩
theorem PA.nil:PA K []:=trivial
theorem PA.cons{l:List (Str×Str)}(cn:PySem.W.nsIn K mainGlobals x=some (some (.ref C)))(fl:PySem.W.findIn K (.ref C) nm=some none)(h:PA K l):PA K ((nm,x)::l):=⟨⟨C,cn,fl⟩,h⟩
theorem PB.nil:PB K []:=trivial
theorem PB.cons{l:List Str}(cn:PySem.W.nsIn K mainGlobals x=some none)(h:PB K l):PB K (x::l):=⟨cn,h⟩
theorem PX.nil:PX K []:=trivial
theorem PX.cons{l:List Str}(cn:PySem.W.nsIn K mainGlobals x=some (some (.ref C)))(q:PySem.W.excIn K C [.type "ValueError",.type "Exception",.type "BaseException",.type "object"] "ValueError.__new__"=true)(h:PX K l):PX K (x::l):=⟨⟨C,cn,q⟩,h⟩
theorem Dw{P:List Value->Prop}{n:Nat}(h:∀a vs,vs.length=n->P (a::vs))(us:List Value)(hl:us.length=n+1):P us:=by
 cases us with
 |nil=>cases hl
 |cons a vs=>exact h a vs (Nat.succ.inj hl)
theorem Dv{P:List Value->Prop}(h:P [])(us:List Value)(hl:us.length=0):P us:=by
 simp_all
theorem BF.nil:BF tp []:=trivial
theorem BF.cons{l:List RF}(h:∀(kV doc pm:Value) (an:Option Addr) (fg ct:Value) (us:List Value),us.length=(N.take k).length->bindArgs (PySem.W.fnOf nm nm (y9 (tp i)) (l3 (tp i)) (j9 (tp i)) .none kV doc pm an fg ct) ⟨us,[]⟩=pure ((N.take k).zip us))(h2:BF tp l):BF tp (⟨id,nm,N,k,i,m⟩::l):=⟨h,h2⟩
theorem BM.nil:BM mt []:=trivial
theorem BM.cons{l:List RM}(h:∀(kV doc pm:Value) (an:Option Addr) (fg ct:Value) (us:List Value),us.length=(N.take k).length->bindArgs (PySem.W.fnOf nm qn (y9 (mt i j)) (l3 (mt i j)) (j9 (mt i j)) .none kV doc pm an fg ct) ⟨us,[]⟩=pure ((N.take k).zip us))(h2:BM mt l):BM mt (⟨id,cl,nm,qn,N,k,i,j,m⟩::l):=⟨h,h2⟩
theorem YF.nil:YF tp c []:=trivial
theorem YF.cons{l:List RF}(h:p9 (comp 60) (c.at ⟨nm,nm,N,N.take k,tp i⟩) (l3 (tp i))=some m.body)(h2:YF tp c l):YF tp c (⟨id,nm,N,k,i,m⟩::l):=⟨h,h2⟩
theorem YM.nil:YM mt c []:=trivial
theorem YM.cons{l:List RM}(h:p9 (comp 60) (c.at ⟨nm,qn,N,N.take k,mt i j⟩) (l3 (mt i j))=some m.body)(h2:YM mt c l):YM mt c (⟨id,cl,nm,qn,N,k,i,j,m⟩::l):=⟨h,h2⟩
theorem YF.get:∀{l:List RF},YF tp c l->∀r∈l,p9 (comp 60) (c.at (r.d tp)) (l3 (tp r.i))=some r.m.body
 |_::_,h,r,hr=>(aC.mp hr).elim (λz=>z▸h.1) (YF.get h.2 r)
theorem YM.get:∀{l:List RM},YM mt c l->∀r∈l,p9 (comp 60) (c.at (r.d mt)) (l3 (mt r.i r.j))=some r.m.body
 |_::_,h,r,hr=>(aC.mp hr).elim (λz=>z▸h.1) (YM.get h.2 r)
theorem PF.get:∀{l:List RF},PF tp K l->∀r∈l,∃f fd,PySem.W.nsIn K mainGlobals r.nm=some (some (.ref f))/\oU K r.nm r.nm (tp r.i) f fd
 |_::_,h,r,hr=>(aC.mp hr).elim (λz=>z▸h.1) (PF.get h.2 r)
theorem PM.get:∀{l:List RM},PM mt K l->∀r∈l,∃C f fd,PySem.W.nsIn K mainGlobals r.cl=some (some (.ref C))/\Meth K C r.nm f/\oU K r.nm r.qn (mt r.i r.j) f fd
 |_::_,h,r,hr=>(aC.mp hr).elim (λz=>z▸h.1) (PM.get h.2 r)
theorem PC.get:∀{l:List (Str×Nat)},PC K l->∀r∈l,∃C,PySem.W.nsIn K mainGlobals r.1=some (some (.ref C))/\iz K C/\PySem.W.makesIn K C=true/\PySem.W.keepIn K (.ref C)=true
 |_::_,h,r,hr=>(aC.mp hr).elim (λz=>z▸h.1) (PC.get h.2 r)
theorem PA.get:∀{l:List (Str×Str)},PA K l->∀r∈l,∃C,PySem.W.nsIn K mainGlobals r.2=some (some (.ref C))/\PySem.W.findIn K (.ref C) r.1=some none
 |_::_,h,r,hr=>(aC.mp hr).elim (λz=>z▸h.1) (PA.get h.2 r)
theorem PB.get:∀{l:List Str},PB K l->∀r∈l,PySem.W.nsIn K mainGlobals r=some none
 |_::_,h,r,hr=>(aC.mp hr).elim (λz=>z▸h.1) (PB.get h.2 r)
theorem PX.get:∀{l:List Str},PX K l->∀r∈l,∃C,PySem.W.nsIn K mainGlobals r=some (some (.ref C))/\PySem.W.excIn K C [.type "ValueError",.type "Exception",.type "BaseException",.type "object"] "ValueError.__new__"=true
 |_::_,h,r,hr=>(aC.mp hr).elim (λz=>z▸h.1) (PX.get h.2 r)
theorem BF.get:∀{l:List RF},BF tp l->∀r∈l,∀(kV doc pm:Value) (an:Option Addr) (fg ct:Value) (us:List Value),us.length=(r.N.take r.k).length->bindArgs (PySem.W.fnOf r.nm r.nm (y9 (tp r.i)) (l3 (tp r.i)) (j9 (tp r.i)) .none kV doc pm an fg ct) ⟨us,[]⟩=pure ((r.N.take r.k).zip us)
 |_::_,h,r,hr=>(aC.mp hr).elim (λz=>z▸h.1) (BF.get h.2 r)
theorem BM.get:∀{l:List RM},BM mt l->∀r∈l,∀(kV doc pm:Value) (an:Option Addr) (fg ct:Value) (us:List Value),us.length=(r.N.take r.k).length->bindArgs (PySem.W.fnOf r.nm r.qn (y9 (mt r.i r.j)) (l3 (mt r.i r.j)) (j9 (mt r.i r.j)) .none kV doc pm an fg ct) ⟨us,[]⟩=pure ((r.N.take r.k).zip us)
 |_::_,h,r,hr=>(aC.mp hr).elim (λz=>z▸h.1) (BM.get h.2 r)
end
def vT(N P:List Str)(sc:Scope):Bool:=decide (sc.kind=.function)&&!sc.isCoroutine&&!sc.isGenerator&&decide N.Nodup&&decide (N.take P.length=P)&&P.all (λx=>decide (sc.names.lookup x=some .local)||decide (sc.names.lookup x=some .cell))&&sc.names.all λy=>decide (y.2≠.free)
theorem Ig{N P:List Str}{sc:Scope}(h:vT N P sc=true):ic N P sc:=by
 unfold vT at h;simp only[Bool.and_eq_true,decide_eq_true_eq,Bool.not_eq_true',List.all_eq_true,Bool.or_eq_true] at h;obtain⟨⟨⟨⟨⟨⟨h1,h2⟩,h3⟩,h4⟩,h5⟩,h6⟩,h7⟩:=h;exact⟨h1,h2,h3,h4,h5,h6,h7⟩
theorem a16{h₀:Heap}{mg:Str->Option Value}{Fh:List Value}{newId:String}(X:K.In h₀)(G:h₀.Ns mainGlobals mg)(e:PySem.W.nsIn K mainGlobals x=some (some (.ref C)))(q:PySem.W.excIn K C Fh newId=true):PyProof.Rows.OwnCls x C Fh newId mg h₀:=by
 refine⟨bK X G e,?_⟩;unfold PySem.W.excIn at q;split at q
 ·rename_i dd cd sl ho;split at q
  ·rename_i C' bm k0 k1 k2 k3 n k5 hm hs;simp only[Bool.and_eq_true,beq_iff_eq,Bool.not_eq_true'] at q;obtain⟨⟨⟨⟨⟨z1,z2⟩,tV⟩,ht⟩,bz⟩,wm⟩:=q;subst z1;subst z2;obtain⟨nm,bs,mro,ns,qn,hd,sn,sub,ab,col,del⟩:=cd;dsimp only at hm tV bz wm;subst hm tV;have ke:sl=#[k0,k1,k2,k3,some (.builtin n),k5]:=by
    obtain⟨l⟩:=sl;simp only at hs;rw[hs]
   subst ke;exact⟨bm,ns,nm,qn,bs,hd,sn,sub,ab,col,dd,k0,k1,k2,k3,k5,_,X _ _ ho,.of_isNs (PySem.W.isNs_of_in X bz),PySem.W.nsMap_none_of_in X bz wm,PySem.W.tail_of_in X ht⟩
  ·cases q
 ·cases q
def T5(K:PySem.W.Frag)(x:Str):Addr:=match PySem.W.nsIn K mainGlobals x with
 |some (some (.ref C))=>C
 |_=>0
def IG(K:PySem.W.Frag)(exc:List Str):Bool:=exc.all λx=>exc.all λy=>decide (PySem.W.exmOne K (.ref (T5 K x)) (.ref (T5 K y))=some (decide (x=y\/y="MintError")))
theorem WN{exc:List Str}(h:IG K exc=true){y:Str}{C':Addr}(hx:exc.contains x=true)(hy:exc.contains y=true)(hC:l5 K x C)(EC:l5 K y C'):PySem.W.exmOne K (.ref C) (.ref C')=some (decide (x=y\/y="MintError")):=by
 have h1:=bP.mp h x (by simpa using hx);have h2:=aQ (bP.mp h1 y (by simpa using hy));have e1:T5 K x=C:=by unfold T5;simp_all
 have e2:T5 K y=C':=by unfold T5;simp_all
 rw[e1,e2] at h2;exact h2
theorem AV{α:Type}{f:α->Nat}:∀{l:List α},(l.map f).Nodup->∀r∈l,l.find? (λx=>Nat.beq (f x) (f r))=some r
 |y::l,nd,r,hr=>by
  rw[bY,ei] at nd;rcases aC.mp hr with rfl|hr
  ·rw[List.find?_cons_of_pos];exact Nat.beq_refl _
  ·rw[List.find?_cons_of_neg]
   ·exact AV nd.2 r hr
   ·intro z;exact nd.1 (aE.mpr ⟨r,hr,(ie z).symm⟩)
theorem Pl{α β:Type}{f:α->Nat}{g:β->Nat}{l:List α}{r:β}(h:g r∉l.map f):l.find? (λx=>Nat.beq (f x) (g r))=none:=by
 rw[KI];intro x hx z;exact h (aE.mpr ⟨x,hx,ie z⟩)
section
variable{w:World}{h₀:Heap}{mg:Str->Option Value}{c:d6}{F:List RF}{M:List RM}{tp:Nat->Stmt}{mt:Nat->Nat->Stmt}
structure km(K:PySem.W.Frag)(c:d6)(F:List RF)(M:List RM)(tp:Nat->Stmt)(mt:Nat->Nat->Stmt):Prop where
 qF:PF tp K F
 qM:PM mt K M
 qC:PC K c.cls
 qA:PA K c.mP
 qB:PB K c.blt
 qX:PX K c.exc
 xm:IG K c.exc=true
structure kl(c:d6)(F:List RF)(M:List RM)(tp:Nat->Stmt)(mt:Nat->Nat->Stmt):Prop where
 cf:c.fns=F.map λr=>(r.nm,r.id)
 cm:c.my=M.map λr=>(r.nm,r.cl,r.id)
 ci:c.cls.all (λy=>M.any λr=>decide (r.cl=y.1)&&decide (r.nm="__init__")&&Nat.beq r.id y.2)=true
 nd:(F.map (·.id)++M.map (·.id)).Nodup
 sF:F.all (λr=>vT r.N (r.N.take r.k) (j9 (tp r.i))&&decide (r.m.ar=(r.N.take r.k).length)&&decide (r.m.n=r.N.length))=true
 sM:M.all (λr=>vT r.N (r.N.take r.k) (j9 (mt r.i r.j))&&decide (r.m.ar=(r.N.take r.k).length)&&decide (r.m.n=r.N.length))=true
 oF:YF tp c F
 oM:YM mt c M
 bF:BF tp F
 bM:BM mt M
theorem Ji(I:km K c F M tp mt)(X:kl c F M tp mt)(r:RF)(hr:r∈F):∃f fd,iP K c (r.d tp) r.m f fd/\PySem.W.nsIn K mainGlobals r.nm=some (some (.ref f))/\rF F M r.id=some r.m:=by
 obtain⟨f,fd,a,q⟩:=I.qF.get r hr;have s:=bP.mp X.sF r hr;simp only[Bool.and_eq_true,decide_eq_true_eq] at s;have o:=X.oF.get r hr;refine⟨f,fd,⟨q,q.binds (X.bF.get r hr),Ig s.1.1,o,s.1.2,s.2⟩,a,?_⟩;unfold rF;rw[AV (f:=(·.id)) (dz.mp X.nd).1 r hr]
theorem Jj(I:km K c F M tp mt)(X:kl c F M tp mt)(r:RM)(hr:r∈M):∃C f fd,iP K c (r.d mt) r.m f fd/\PySem.W.nsIn K mainGlobals r.cl=some (some (.ref C))/\Meth K C r.nm f/\rF F M r.id=some r.m:=by
 obtain⟨C,f,fd,a,q1,q⟩:=I.qM.get r hr;have s:=bP.mp X.sM r hr;simp only[Bool.and_eq_true,decide_eq_true_eq] at s;have o:=X.oM.get r hr;refine⟨C,f,fd,⟨q,q.binds (X.bM.get r hr),Ig s.1.1,o,s.1.2,s.2⟩,a,q1,?_⟩;have nd:=dz.mp X.nd;unfold rF;rw[Pl (f:=λr:RF=>r.id) (g:=λr:RM=>r.id) (r:=r) (λz=>nd.2.2 _ z _ (aE.mpr ⟨r,hr,rfl⟩) rfl),AV (f:=λr:RM=>r.id) nd.2.1 r hr]
 rfl
theorem OM(I:km K c F M tp mt)(Y:kl c F M tp mt)(X:K.In h₀)(G:h₀.Ns mainGlobals mg)(con:∀x d,c.con.lookup x=some d->∃v u,mg x=some u/\RelV v u/\∀ρ H,d0 K ρ H d v)(pT:∀x kvs,c.gd.lookup x=some kvs->∃A vs,mg x=some (.ref A)/\xD K w.params A vs/\oK K kvs vs):mh w K mg c (rF F M):=by
 refine⟨λx i hx=>?_,λx i hx=>?_,λx y i C hx hC=>?_,λf y C hx hC=>?_,con,λx hx=>?_,λx hx=>?_,λx y C C' hx hy hC EC=>WN I.xm hx hy hC EC,pT⟩
 ·have hm:=aL hx;rw[Y.cf] at hm;obtain⟨r,hr,e⟩:=aE.mp hm;cases e;obtain⟨f,fd,O,a,t⟩:=Ji I Y r hr;exact⟨_,_,f,fd,t,O,bK X G a⟩
 ·have hm:=aL hx;have h1:=bP.mp Y.ci _ hm;obtain⟨r,hr,e⟩:=bO.mp h1;simp only[Bool.and_eq_true,decide_eq_true_eq] at e;obtain⟨⟨e1,e2⟩,e3⟩:=e;have e3:=ie e3;obtain⟨C,f,fd,O,a,q,t⟩:=Jj I Y r hr;obtain⟨C',a',hc,mk,kp⟩:=I.qC.get _ hm;rw[e1] at a;cases a.symm.trans a';rw[e2] at q;rw[e3] at t;exact⟨C,_,_,f,fd,t,O,bK X G a,a,hc,⟨mk,q.at_,q.fn,kp⟩⟩
 ·rw[Y.cm] at hx;obtain⟨r,hr,e⟩:=aE.mp hx;cases e;obtain⟨C',f,fd,O,a,q,t⟩:=Jj I Y r hr;cases a.symm.trans hC;exact⟨_,_,f,fd,t,O,q⟩
 ·obtain⟨C',a,q⟩:=I.qA.get _ hx;cases a.symm.trans hC;exact q
 ·exact PySem.W.mg_none_of X G (I.qB.get x (by simpa using hx))
 ·obtain⟨C,a,q⟩:=I.qX.get x (by simpa using hx);exact⟨_,bK X G a,a,λbase lK ug=>⟨_,_,_,_,a16 lK ug a q,PySem.F.excBase_ValueError⟩⟩
end
end M
namespace M
open PySem L2
variable{g g':G}{i j n k a b m r c p q hl hd cl lc lf qc qf gv lr:Nat}{o o':O}{P:eB}{Q:KD}{E:KX}{N:Ends}{ms ns:List Int}{l c7 H:List Nat}{α:Type}{x:Str}{y dd:D}{kb:Bool->Prop}{cs:List a8}{f:Nat×Int×Int}{t:MT}{it elt:ME}{w:RW}{rs:List gB}{v u:Int}{fs:Fs}{kvs:List (Key×D)}{hs:Hs}
set_option hygiene false
local macro_rules|`(tactic|walk_at"w1")=>`(tactic|with_reducible first|refine Iw ?_|refine Gb ?_|refine Gd ?_|refine Ww ?_|refine OS ?_|refine WA ?_|refine Ri ?_|refine OV ?_|refine Ga ?_|refine Z8 ?_|refine yh ?_|(refine w_var (d:=?_) ?_ ?_;rotate_left;·with_unfolding_all rfl)|refine w_lit ?_|refine rG ?_|refine xB ?_|refine UA ?_|refine Iv ?_|refine Rb ?_|refine w_and ?_|refine w_or ?_|refine w_not ?_|refine w_ite ?_|refine Iu ?_|refine OT ?_|refine Rc ?_|refine Co ?_|refine uY ?_|refine OW ?_|refine Wx ?_|refine OX ?_|refine L4 ?_|refine Ge ?_|refine UD ?_|refine UE ?_|refine Wu ?_|refine SX ?_|refine SW ?_|refine SV ?_|refine SU ?_|refine UK ?_|refine Fu ?_|refine UJ ?_|refine UT ?_|refine UL ?_|refine UN ?_|refine UP ?_|refine UO ?_|refine UR ?_|refine US ?_|refine UQ ?_|refine qa ?_|refine EY ?_|refine EX ?_|refine EV ?_|refine EW ?_|refine EU ?_|refine CU ?_|refine wW ?_|refine WS ?_|refine ji ?_|refine oO ?_|refine Gq ?_|refine Tg ?_|refine DP ?_|refine yo ?_|refine ym ?_|refine yn ?_|refine DF ?_|refine Vx ?_|refine Dx ?_)
local macro_rules|`(tactic|walk_at"w2")=>`(tactic|repeat(with_reducible first|walk_at "w1"|refine xO (by simp) ?_|refine uK (by simp) ?_|refine O2 (a4 (by assumption)) (by with_unfolding_all rfl) ?_|refine uH (a4 (by assumption)) ?_|refine xE (by unfold Z7;decide) ?_))
local macro_rules|`(tactic|walk_at"w3")=>`(tactic|repeat(with_reducible first|walk_at "w1"|refine xO (by simp) ?_|refine uK (by simp) ?_|refine O2 (a4 (by assumption)) (by with_unfolding_all rfl) ?_|refine uH (a4 (by assumption)) ?_|refine xE (by unfold Z7;decide) ?_|refine And.intro (show List.length _ <= 1000 from by simp) ?_|refine G9 (by with_unfolding_all rfl) ?_|refine j3 ?_|refine K6 (by with_unfolding_all rfl) ?_))
local macro_rules|`(tactic|walk_at"")=>`(tactic|repeat(with_reducible first|walk_at "w1"|refine Rg ?_|refine Wz ?_|refine OU ?_|refine ET ?_|refine Wm ?_|refine Dy ?_|refine max2 ?_|refine min2 ?_|refine Vh ?_|refine R7 ?_|refine NK ?_|refine EJ ?_|refine xO (by simp) ?_|refine uK (by simp) ?_|refine O2 (a4 (by assumption)) (by with_unfolding_all rfl) ?_|refine uH (a4 (by assumption)) ?_|refine xE (by unfold Z7;decide) ?_|refine And.intro (show List.length _ <= 1000 from by simp) ?_|refine G9 (by with_unfolding_all rfl) ?_|refine j3 ?_|refine K6 (by with_unfolding_all rfl) ?_|refine And.intro (Kl (by assumption)) ?_|refine And.intro (yA (by assumption)) ?_|refine And.intro (Ly (by assumption)) ?_|refine Y2 (by decide) ?_|refine BS (by decide) (by decide) ?_|refine yG ?_))
set_option hygiene true
abbrev cB(a:ME):ME:=.cons a .nil
abbrev dw(a b:ME):ME:=.cons a (.cons b .nil)
abbrev dH(a b c:ME):ME:=.cons a (.cons b (.cons c .nil))
abbrev qt(a b c d:ME):ME:=.cons a (.cons b (.cons c (.cons d .nil)))
abbrev Dn(a b c d e:ME):ME:=.cons a (.cons b (.cons c (.cons d (.cons e .nil))))
abbrev Aa(a b c d e f:ME):ME:=.cons a (.cons b (.cons c (.cons d (.cons e (.cons f .nil)))))
abbrev EG(a b c d e f g:ME):ME:=.cons a (.cons b (.cons c (.cons d (.cons e (.cons f (.cons g .nil))))))
abbrev cI(o:PySem.CmpOp)(a b:ME):ME:=.dQ (.prim (.cmp o) (.cons a (.cons b .nil)))
abbrev bu(a b:ME):ME:=.prim .ix (.cons a (.cons b .nil))
abbrev aV(a:Int):ME:=.lit (.int a)
abbrev bU(a:PySem.Str):ME:=.lit (.str a)
abbrev cu(p:Pr)(a:ME):ME:=.prim p (.cons a .nil)
abbrev bR(p:Pr)(a b:ME):ME:=.prim p (.cons a (.cons b .nil))
abbrev aw:ME:=.var 0
abbrev aF:ME:=.var 1
abbrev aR:ME:=.var 2
abbrev bj:ME:=.var 3
abbrev cW:ME:=.var 4
abbrev ff:ME:=.var 5
abbrev fE:ME:=.var 6
abbrev js:ME:=.var 7
abbrev lJ:ME:=.var 8
abbrev pC:ME:=.var 9
def S3:aK:=⟨2,5,(.seq (.ifs (.dC (cI .Lt (bu aw (aV 2)) aF) (cI .Lt (bu aw (aV 1)) (cu .len (bu aw (aV 0))))) (.seq (.set 2 (bu (bu aw (aV 0)) (bu aw (aV 1)))) (.seq (.cN aw (aV 1) (bR (.bin .Add) (bu aw (aV 1)) (aV 1))) (.seq (.cN aw (aV 2) (aV 0)) (.seq (.ifs (cI .GtE aR (bR (.bin .Pow) (aV 10) (aV 18))) (.seq (.cN aw (aV 2) aR) .pass) (.seq (.cN aw (aV 3) (bR (.bin .Mod) (bR (.bin .Add) (bR (.bin .Add) (bR (.bin .Mult) (bu aw (aV 3)) (aV 48271)) (bR (.bin .Mult) (bR (.bin .Mod) aR (aV 2147483629)) (aV 69621))) (aV 12345)) (aV 2147483647))) .pass)) .pass)))) .pass) (.seq (.ifs (cI .GtE (bu aw (aV 2)) aF) (.seq (.set 3 (bR (.bin .Mod) (bu aw (aV 2)) aF)) (.seq (.cN aw (aV 2) (bR (.bin .FloorDiv) (bu aw (aV 2)) aF)) (.seq (.ret bj) .pass))) .pass) (.seq (.set 4 (bu aw (aV 3))) (.seq (.cN aw (aV 3) (bR (.bin .Mod) (bR (.bin .Add) (bR (.bin .Add) (bR (.bin .Mult) (bR (.bin .Mod) (bR (.bin .Mult) cW cW) (aV 2147483629)) (aV 5)) (bR (.bin .Mult) cW (aV 16811))) (aV 2531011)) (aV 2147483647))) (.seq (.ret (bR (.bin .Mod) (bR (.bin .Add) (bR (.bin .FloorDiv) (bu aw (aV 3)) (aV 59)) (bR (.bin .Mult) (bR (.bin .Mod) (bu aw (aV 3)) (aV 8191)) (aV 31))) aF)) .pass)))))⟩
def rq:aK:=⟨1,2,(.seq (.set 1 (.call 4 (dw aw (bR (.bin .Pow) (aV 10) (aV 9))))) (.seq (.ifs (cI .Eq (.call 4 (dw aw (aV 2))) (aV 0)) (.seq (.set 1 (bR (.bin .Add) aF (bR (.bin .Pow) (aV 10) (aV 25)))) .pass) .pass) (.seq (.ifs (cI .Eq (.call 4 (dw aw (aV 2))) (aV 0)) (.seq (.ret (bR (.bin .Sub) (cu (.un .USub) (aV 1)) aF)) .pass) .pass) (.seq (.ret aF) .pass))))⟩
structure l7(g:G)(d:Nat):Prop where
 ex:∃(s:Nat) (p b r:Int) (xs:List Int),g[d]?=some (.lst [.ref s,.int p,.int b,.int r])/\g[s]?=some (.lst (xs.map .int))/\s<d/\0<=p/\0<=b/\0<=r/\r<2147483647
structure Gr(d:Nat)(g g':G):Prop where
 len:g.length<=g'.length
 old:∀i,i≠d->i<g.length->g'[i]?=g[i]?
theorem Gr.refl(d:Nat)(g:G):Gr d g g:=⟨au _,λ_ _ _=>rfl⟩
theorem Gr.trans{d:Nat}{g g1 g2:G}(a:Gr d g g1)(b:Gr d g1 g2):Gr d g g2:=⟨aA a.len b.len,λi h1 h2=>(b.old i h1 (ay h2 a.len)).trans (a.old i h1 h2)⟩
theorem Gr.set(d:Nat)(g:G)(o:O):Gr d g (g.set d o):=⟨by simp,λi h1 h2=>aB (bf h1)⟩
theorem Gr.snoc(d:Nat)(g:G)(o:O):Gr d g (g++[o]):=⟨by simp,λi h1 h2=>aI h2⟩
theorem Gr.at{d:Nat}(h:Gr d g g')(hi:i≠d)(e:g[i]?=some o):g'[i]?=some o:=(h.old i hi (ao.mp e).1).trans e
theorem j2(h:g[i]?=some o):i<g.length:=(ao.mp h).1
theorem l7.lt{d:Nat}(h:l7 g d):d<g.length:=by
 obtain⟨_,_,_,_,_,e,_⟩:=h.ex;exact j2 e
theorem l7.snoc{d:Nat}(h:l7 g d)(o:O):l7 (g++[o]) d:=by
 obtain⟨s,p,b,r,xs,e1,e2,q⟩:=h.ex;exact⟨s,p,b,r,xs,by rw[aI (j2 e1)];exact e1,by rw[aI (j2 e2)];exact e2,q⟩
def A5:MS->MS
 |.seq _ b=>b
 |x=>x
theorem WJ{i j:Int}(h1:-(2 ^ 64)<i)(h2:i<2 ^ 64):pX i j:=.inl ⟨h1,h2⟩
theorem uR{i j:Int}(h1:-(2 ^ 64)<j)(h2:j<2 ^ 64):pX i j:=.inr ⟨h1,h2⟩
theorem a02{d:Nat}{n:Int}{c2:Option D}(hN:N.rt=Q)(D0:l7 g d)(hn:0<n)(nD:n<1073741824)(h:∀r g',0<=r->r<n->l7 g' d->Gr d g g'->Q (.int r) g'):wpS P (A5 S3.body) N [some (.ref d),some (.int n),c2,none,none] g E:=by
 obtain⟨s,p,b,r,xs,e1,e2,nB,hp,hb,hr,tG⟩:=D0.ex;have dq:=j2 e1;subst hN;dsimp[S3,A5];walk_at "w2";refine if2 (λc=>?_) (λc=>?_)
 ·walk_at "w2";refine Y2 hn ?_;walk_at "w2";refine Fj ⟨hn,nD⟩ ?_;walk_at "w2";refine rQ e1 (by rfl) ?_;walk_at "w2";refine h _ _ (hV _ ()) (fP _ hn) ⟨s,p,b / n,r,xs,?_,?_,nB,hp,Int.ediv_nonneg hb (),hr,tG⟩ (Gr.set d g _)
  ·rw[aY dq];rfl
  ·rw[aB (bw nB)];exact e2
 ·walk_at "w2";have DG:-(2 ^ 64)<r/\r<2 ^ 64:=⟨by omega,by omega⟩
  refine rJ (WJ DG.1 DG.2) ?_;refine Y2 ∅ ?_;refine rJ (uR ∅ ∅) ?_;walk_at "w2";refine rJ (uR ∅ ∅) ?_;walk_at "w2";refine Y2 ∅ ?_;walk_at "w2";refine rQ e1 (by rfl) ?_;generalize mF:(r*r % 2147483629*5+r*16811+2531011) % 2147483647=r';have q0:0<=r':=by rw[<- mF];exact hV _ ∅
  have q1:r'<2147483647:=by rw[<- mF];exact fP _ ∅
  have uq:(g.set d (.lst [.ref s,.int p,.int b,.int r']))[d]?=some (.lst [.ref s,.int p,.int b,.int r']):=aY dq;show wpS P _ _ _ (g.set d (.lst [.ref s,.int p,.int b,.int r'])) E;walk_at "w2";refine Fj ⟨by decide,by decide⟩ ?_;walk_at "w2";refine Y2 ∅ ?_;refine rJ (uR ∅ ∅) ?_;walk_at "w2";refine Y2 hn ?_;refine h _ _ (hV _ ()) (fP _ hn) ⟨s,p,b,r',xs,uq,?_,nB,hp,hb,q0,q1⟩ (Gr.set d g _);rw[aB (bw nB)];exact e2
theorem o8{T:Nat->Option aK}(hT:T 4=some S3){d:Nat}{n:Int}(D0:l7 g d)(hn:0<n)(nD:n<1073741824)(h:∀r g',0<=r->r<n->l7 g' d->Gr d g g'->Q (.int r) g'):b0 T (k+1) 4 [.ref d,.int n] g Q E:=by
 obtain⟨s,p,b,r,xs,e1,e2,nB,hp,hb,hr,tG⟩:=D0.ex;have dq:=j2 e1;refine call_of hT rfl ?_;have tail:∀(g':G) (c2:Option D),l7 g' d->Gr d g g'->wpS (b0 T k) (A5 S3.body) ⟨λ_ g'=>Q .bc g',Q,λ_ _=>False,λ_ _=>False⟩ [some (.ref d),some (.int n),c2,none,none] g' E :=
  λg' c2 D1 gr=>a02 rfl D1 hn nD λr g2 a b c e=>h r g2 a b c (gr.trans e)
 dsimp[S3,b5,List.replicate];walk_at "w2";refine if2 (λc=>?_) (λc=>?_)
 ·walk_at "w2";refine if2 (λc'=>?_) (λc'=>?_)
  ·walk_at "w2";have ia:p.toNat<xs.length:=by
    rw[av] at c';omega
   have ea:iH (xs.map D.int) p=some (.int xs[p.toNat]):=by
    have:=O8 (xs:=xs.map D.int) (j:=p.toNat) (v:=.int xs[p.toNat]) (by rw[ah,ak ia];rfl)
    rwa [show((p.toNat:Nat):Int)=p by omega] at this
   refine O2 (a4 e2) ea ?_;generalize xs[p.toNat]=cell;walk_at "w2";refine rQ e1 (by rfl) ?_;have f1:(g.set d (.lst [.ref s,.int (p+1),.int b,.int r]))[d]?=some (.lst [.ref s,.int (p+1),.int b,.int r]):=aY dq;walk_at "w2";refine rQ f1 (by rfl) ?_;rw[gP];have f2:(g.set d (.lst [.ref s,.int (p+1),.int 0,.int r]))[d]?=some (.lst [.ref s,.int (p+1),.int 0,.int r]):=aY dq;show wpS (b0 T k) _ _ _ (g.set d (.lst [.ref s,.int (p+1),.int 0,.int r])) E;walk_at "w2";refine if2 (λc2=>?_) (λc2=>?_)
   ·walk_at "w2";refine rQ f2 (by rfl) ?_;rw[gP];refine tail _ _ ⟨s,p+1,cell,r,xs,aY dq,by rw[aB (bw nB)];exact e2,nB,by omega,?_,hr,tG⟩ (Gr.set d g _);have EF:(0:Int)<=10 ^ (18:Int).toNat:=by decide
    omega
   ·walk_at "w2";refine rJ (uR ∅ ∅) ?_;walk_at "w2";refine Y2 ∅ ?_;refine rJ (uR ∅ ∅) ?_;walk_at "w2";refine Y2 ∅ ?_;walk_at "w2";refine rQ f2 (by rfl) ?_;rw[gP];exact tail _ _ ⟨s,p+1,0,_,xs,aY dq,by rw[aB (bw nB)];exact e2,nB,by omega,by decide,hV _ ∅,fP _ ∅⟩ (Gr.set d g _)
  ·exact tail _ _ D0 (Gr.refl _ _)
 ·exact tail _ _ D0 (Gr.refl _ _)
theorem WO{T:Nat->Option aK}(hT:T 4=some S3)(MU:T 5=some rq){d:Nat}(D0:l7 g d)(h:∀r g',l7 g' d->Gr d g g'->Q (.int r) g'):b0 T (k+2) 5 [.ref d] g Q E:=by
 refine call_of MU rfl ?_;dsimp[rq,b5,List.replicate];walk_at "w2";refine o8 hT D0 ∅ ∅ λr1 g1 _ _ D1 G1=>?_;walk_at "w2";refine o8 hT D1 ∅ ∅ λr2 g2 _ _ D2 G2=>?_;walk_at "w2";have Kx:=G1.trans G2;have last:∀(x:Int),wpS (b0 T (k+1)) (A5 (A5 rq.body)) ⟨λ_ g'=>Q .bc g',Q,λ_ _=>False,λ_ _=>False⟩ [some (.ref d),some (.int x)] g2 E:=λx=>by
  dsimp[rq,A5];walk_at "w2";refine o8 hT D2 ∅ ∅ λr3 g3 _ _ D3 G3=>?_;walk_at "w2";refine if2 (λc=>?_) (λc=>?_)
  ·walk_at "w2";exact h _ _ D3 (Kx.trans G3)
  ·walk_at "w2";exact h _ _ D3 (Kx.trans G3)
 refine if2 (λc=>?_) (λc=>?_)
 ·refine Iw ?_;refine Gd ?_;refine rG ?_;walk_at "w1";refine rG ?_;walk_at "w1";walk_at "w1";refine xE (by unfold Z7;decide) ?_;walk_at "w1";exact last _
 ·exact last _
def Bx:aK:=⟨1,1,(.seq (.ret (.dC (bR .isin aw (.lit (.ty "int"))) (.cO (bR .isin aw (.lit (.ty "bool")))))) .pass)⟩
def Y6:aK:=⟨3,3,(.seq (.ret (.dC (.call 38 (cB aw)) (.chain .LtE .LtE aF aw aR))) .pass)⟩
structure NF(T:Nat->Option aK):Prop where
 nf:T 1=some Y6
 is:T 38=some Bx
def I9:aK:=⟨1,3,(.seq (.set 1 (aV 0)) (.seq (.eF (.one 2) (.eN aw) (.seq (.ifs (.cO (.dQ (.call 1 (dH aR aF (aV 7))))) (.seq (.ret (.lit (.bl false))) .pass) .pass) (.seq (.set 1 (bR (.bin .Add) aR (aV 1))) .pass))) (.seq (.ret (.lit (.bl true))) .pass)))⟩
def xM:aK:=⟨1,1,(.seq (.ret (.prim .lst (qt (cu .list (bR (.nk false true) aw (aV 63))) (aV 0) (aV 0) (aV 29)))) .pass)⟩
def vk:aK:=⟨1,1,(.seq (.ret (.dC (bR .isin aw (.lit (.ty "int"))) (.cO (bR .isin aw (.lit (.ty "bool")))))) .pass)⟩
def E4:aK:=⟨2,2,(.seq (.ifs (cI .Is aF (.lit .bc)) (.seq (.ret (bR (.cmp .Is) aw (.lit .bc))) .pass) .pass) (.seq (.ifs (.dQ (bR .isin aF (.lit (.ty "bool")))) (.seq (.ret (.dC (bR .isin aw (.lit (.ty "bool"))) (bR (.cmp .Eq) aw aF))) .pass) .pass) (.seq (.ifs (.dQ (bR .isin aF (.lit (.ty "int")))) (.seq (.ret (.dC (.call 6 (cB aw)) (bR (.cmp .Eq) aw aF))) .pass) .pass) (.seq (.ifs (.dQ (bR .isin aF (.lit (.ty "str")))) (.seq (.ret (.dC (bR .isin aw (.lit (.ty "str"))) (bR (.cmp .Eq) aw aF))) .pass) .pass) (.seq (.ifs (.gX (cI .NotEq (bR .isin aF (.lit (.ty "tuple"))) (bR .isin aw (.lit (.ty "tuple")))) (cI .NotEq (bR .isin aF (.lit (.ty "list"))) (bR .isin aw (.lit (.ty "list"))))) (.seq (.ret (.lit (.bl false))) .pass) .pass) (.seq (.ifs (cI .NotEq (cu .len aw) (cu .len aF)) (.seq (.ret (.lit (.bl false))) .pass) .pass) (.seq (.ret (cu .all (.comp [1,0] 4 (.one 3) (.fk (cu .len aF)) .no (.call 7 (dw (bu aF bj) (bu aw bj)))))) .pass)))))))⟩
def U1:aK:=⟨1,1,(.seq (.ret (bR (.cmp .Eq) (cu .list aw) (.comp [0] 3 (.one 2) (.fk (aV 8)) (cI .In aR aw) aR))) .pass)⟩
theorem L1{g:G}{n:Nat}:∀ms:List Int,(ms.map D.int).mapM (rd g n)=some (ms.map PyData.int)
 |[]=>rfl
 |m::r=>by
  rw[bY,List.mapM_cons,L1 r];cases n<;>rfl
theorem lay_ints:∀ms:List Int,PyData.canLayAll0 (ms.map PyData.int)=true
 |[]=>by rfl
 |m::r=>by simp[PyData.canLayAll0,PyData.canLay0,lay_ints r]
theorem HH:∀ms ns:List Int,PyData.eqvAll (ms.map PyData.int) (ns.map PyData.int)=decide (ms=ns)
 |[],[]=>by rfl
 |[],_::_=>by rfl
 |_::_,[]=>by rfl
 |m::r,n::q=>by
  simp only[List.map_cons,PyData.eqvAll,PyData.eqv,HH r q];by_cases h:m=n
  ·subst h;simp
  ·simp[h]
theorem GL{i:Int}{k:Bool->Prop}(h:k (ms.any λm=>m==i)):mD g (.int i) (.tup (ms.map .int)) k:=by
 refine⟨_,.inr ⟨_,_,_,rfl,L1 ms,rfl,lay_ints ms,by rfl,rfl⟩,?_⟩;rw[sy];exact h
theorem GF{k:Bool->Prop}(ha:c9 g a=some (ms.map .int))(hb:c9 g b=some (ns.map .int))(h:k (decide (ms=ns))):qW g (.ref a) (.ref b) k:=by
 refine⟨_,.inr (.inr (.inr ⟨.list (ms.map .int),.list (ns.map .int),?_,?_,?_,?_,rfl⟩)),?_⟩
 ·simp only[rd];rw[ha];dsimp only;rw[L1];rfl
 ·simp only[rd];rw[hb];dsimp only;rw[L1];rfl
 ·simp[PyData.canLay0,lay_ints]
 ·simp[PyData.canLay0,lay_ints]
 ·simp only[PyData.eqv,HH];exact h
section
variable{T:Nat->Option aK}{d:Nat}
theorem F7(h1:NF T){i:Int}(h:Q (.bl true) g):b0 T (k+1) 38 [.int i] g Q E:=by
 refine call_of h1.is rfl ?_;dsimp[Bx,b5,List.replicate];walk_at "w2";refine fT (c:="int") (b:=true) ∅ rfl ?_;walk_at "w2";refine fT (c:="bool") (b:=false) ∅ rfl ?_;walk_at "w2";exact h
theorem A9(h1:NF T){i l m:Int}(h:Q (.bl (decide (l<=i)&&decide (i<=m))) g):b0 T (k+2) 1 [.int i,.int l,.int m] g Q E:=by
 refine call_of h1.nf rfl ?_;dsimp[Y6,b5,List.replicate];walk_at "w2";refine F7 h1 ?_;walk_at "w2";refine if2 (λc=>?_) (λc=>?_)
 ·rw[aH c] at h;walk_at "w2";exact h
 ·rw[aM c] at h;exact h
def gm:Int->List Int->Bool
 |_,[]=>true
 |l,x::r=>(decide (l<=x)&&decide (x<=7))&&gm (x+1) r
theorem HY(h1:NF T)(h2:T 2=some I9)(h:Q (.bl (gm 0 ms)) g):b0 T (k+3) 2 [.tup (ms.map .int)] g Q E:=by
 refine call_of h2 rfl ?_;refine K3 (a5 T _) (yF (a5 T _) ?_);walk_at "w2";refine⟨_,rfl,_,λi Z g'=>g'=g/\∃(l:Int) (z:Option D),Z=[some (.tup (ms.map .int)),some (.int l),z]/\gm 0 ms=gm l (ms.drop i),λ_ _ _ _=>J9,⟨rfl,0,none,rfl,rfl⟩,λi x Z g' hx p=>?_,λZ g' p=>?_⟩
 ·obtain⟨rfl,l,z,rfl,e⟩:=p;rw[ah] at hx;cases em:ms[i]? with
  |none=>rw[em] at hx;cases hx
  |some m =>
   rw[em] at hx;cases hx;have hi:=(ao.mp em).1;have ed:ms.drop i=m::ms.drop (i+1):=by
    rw[dJ hi]
    congr 1
    exact(ao.mp em).2
   rw[ed] at e;simp only[gm] at e;show wpS _ _ _ _ _ _;walk_at "w2";refine A9 h1 ?_;walk_at "w2";cases hc:(decide (l<=m)&&decide (m<=7)) with
   |true =>
    rw[hc,oX] at e;walk_at "w2";exact⟨rfl,m+1,some (.int m),rfl,e⟩
   |false =>
    rw[hc,ng] at e;rw[e] at h;exact h
 ·obtain⟨rfl,l,z,rfl,e⟩:=p;rw[List.drop_eq_nil_of_le (by simp)] at e;rw[e] at h;exact h
theorem Qc(h3:T 3=some xM)(hg:g[a]?=some (.nL (ns.map .int)))(h:∀d g',l7 g' d->g.length<=d->(∀i,i<g.length->g'[i]?=g[i]?)->Q (.ref d) g'):b0 T (k+1) 3 [.ref a] g Q E:=by
 refine call_of h3 rfl ?_;dsimp[xM,b5,List.replicate];walk_at "w2";refine Ot (a35 hg) ?_;refine Vw (l:=cut (ns.map D.int) none (some 63)) (a4 (by simp)) ?_;walk_at "w2";have ec:cut (ns.map D.int) none (some 63)=(cut ns none (some 63)).map D.int:=by
  unfold cut;simp[List.map_take,List.map_drop]
 refine h _ _ ⟨g.length+1,0,0,29,cut ns none (some 63),?_,?_,?_,by decide,by decide,by decide,by decide⟩ (by simp) (λi hi=>?_)
 ·simp
 ·rw[<- ec];simp
 ·simp
 ·simp[List.getElem?_append,hi,Nat.lt_of_lt_of_le hi (by omega:g.length<=g.length+1),Nat.lt_of_lt_of_le hi (by omega:g.length<=g.length+1+1)]
theorem HM(h8:T 8=some U1)(h:∀g',Gr d g g'->(l7 g d->l7 g' d)->Q (.bl (decide (ms=((List.range 8).map λ(n:Nat)=>(n:Int)).filter λs=>ms.any λm=>m==s))) g'):b0 T (k+1) 8 [.tup (ms.map .int)] g Q E:=by
 refine call_of h8 rfl ?_;dsimp[U1,b5,List.replicate];walk_at "w2";refine Zm (a5 T _) ?_;walk_at "w2";refine⟨8,rfl,by decide,λi ys Z g'=>g'=g++[.lst (ms.map .int)]/\ys.length<=i/\(∃z w,Z=[some (.tup (ms.map .int)),z,w])/\ys=((((List.range i).map λ(n:Nat)=>(n:Int)).filter λs=>ms.any λm=>m==s).map D.int),⟨rfl,by simp,⟨none,none,rfl⟩,rfl⟩,λi ys Z g' p=>p.2.1,λi ys Z g' hi p=>?_,λys Z g' p=>?_⟩
 ·obtain⟨rfl,hl,⟨z,w,rfl⟩,e⟩:=p;show dF _ _ _ _ _ _;walk_at "w2";refine rg (GL ?_);walk_at "w2";have er:(List.range (i+1)).map (λ(n:Nat)=>(n:Int))=(List.range i).map (λ(n:Nat)=>(n:Int))++[(i:Int)]:=by rw[hU];simp
  cases hc:(ms.any λm=>m==(i:Int)) with
  |true =>
   refine ji ?_;walk_at "w2";refine⟨rfl,by simp;omega,⟨_,_,rfl⟩,?_⟩;rw[er,cz,bB,<- e];simp[hc]
  |false =>
   refine oO ?_;refine⟨rfl,by omega,⟨_,_,rfl⟩,?_⟩;rw[er,cz,bB,<- e];simp[hc]
 ·obtain⟨rfl,hl,_,e⟩:=p;rw[e];refine xw (GF (ms:=ms) (a4 (by simp)) (a4 (by simp;rfl)) ?_);exact h _ ((Gr.snoc d g _).trans (Gr.snoc d _ _)) λD0=>(D0.snoc _).snoc _
end
theorem FC:∀{ms:List Int} {l:Int},ms.Pairwise (· < ·)->(∀m∈ms,l<=m/\m<=7)->gm l ms=true
 |[],_,_,_=>rfl
 |m::r,l,hp,h=>by
  obtain⟨h1,h2⟩:=cK.mp hp;have hm:=h m (by simp);simp only[gm];rw[aH hm.1,aH hm.2,FC h2 λx hx=>⟨by have:=h1 x hx;omega,(h x (by simp[hx])).2⟩]
  rfl
theorem Bb{l:List α}{r:Int}(h0:0<=r)(h1:r<l.length):∃v,iH l r=some v/\v∈l:=by
 have hi:r.toNat<l.length:=by omega
 refine⟨l[r.toNat],?_,eX hi⟩;have:=O8 (xs:=l) (j:=r.toNat) (v:=l[r.toNat]) (ak hi)
 rwa [show((r.toNat:Nat):Int)=r by omega] at this
section
variable{T:Nat->Option aK}
theorem IP(h7:T 7=some E4){a b:Bool}(h:Q (.bl (a==b)) g):b0 T (k+1) 7 [.bl a,.bl b] g Q E:=by
 refine call_of h7 rfl ?_;dsimp[E4,b5,List.replicate];walk_at "w2";walk_at "w2";refine fT (c:="bool") (b:=true) ∅ rfl ?_;walk_at "w2";refine fT (c:="bool") (b:=true) ∅ rfl ?_;walk_at "w2";exact h
end
theorem GV(ms:List Int):gm 0 ms=decide (ms=((List.range 8).map λ(n:Nat)=>(n:Int)).filter λs=>ms.any λm=>m==s):=by
 rw[bh,cJ];constructor
 ·intro h;have key:∀(ms:List Int) (l:Int),gm l ms=true->ms.Pairwise (· < ·)/\∀m∈ms,l<=m/\m<=7:=by
   intro ms
   induction ms with
   |nil=>intro l _;exact⟨List.Pairwise.nil,by simp⟩
   |cons m r ih =>
    intro l h;simp only[gm,Bool.and_eq_true,decide_eq_true_eq] at h;obtain⟨⟨h1,h2⟩,h3⟩:=h;obtain⟨p1,p2⟩:=ih (m+1) h3;refine⟨cK.mpr ⟨λx hx=>by have:=p2 x hx;omega,p1⟩,λx hx=>?_⟩;rcases aC.mp hx with z|z
    ·subst z;exact⟨h1,h2⟩
    ·have:=p2 x z;omega
  obtain⟨p1,p2⟩:=key ms 0 h;have uniq:∀(xs ys:List Int),xs.Pairwise (· < ·)->ys.Pairwise (· < ·)->(∀z,z∈xs↔z∈ys)->xs=ys:=by
   intro xs
   induction xs with
   |nil =>
    intro ys _ _ h;cases ys with
    |nil=>rfl
    |cons y r=>exact absurd ((h y).mpr (by simp)) (by simp)
   |cons x xs ih =>
    intro ys hx hy h;cases ys with
    |nil=>exact absurd ((h x).mp (by simp)) (by simp)
    |cons y ys =>
     obtain⟨a1,a2⟩:=cK.mp hx;obtain⟨b1,b2⟩:=cK.mp hy;have NO:x=y:=by
      rcases aC.mp ((h x).mp (by simp)) with z|z
      ·exact z
      ·rcases aC.mp ((h y).mpr (by simp)) with w|w
       ·exact w.symm
       ·have:=b1 x z;have:=a1 y w;omega
     subst NO
     congr 1
     refine ih ys a2 b2 λz=>⟨λhz=>?_,λhz=>?_⟩
     ·rcases aC.mp ((h z).mp (by simp[hz])) with w|w
      ·subst w;exact absurd (a1 z hz) ()
      ·exact w
     ·rcases aC.mp ((h z).mpr (by simp[hz])) with w|w
      ·subst w;exact absurd (b1 z hz) ()
      ·exact w
  refine uniq _ _ p1 ?_ λz=>?_
  ·refine ya _ ?_
   decide
  ·simp only[List.mem_filter,List.any_eq_true,beq_iff_eq,exists_eq_right,List.mem_map,List.mem_range];refine⟨λhz=>⟨⟨z.toNat,by have:=p2 z hz;omega,by have:=p2 z hz;omega⟩,hz⟩,λhz=>hz.2⟩
 ·intro h;rw[h];refine FC ?_ λm hm=>?_
  ·refine ya _ ?_
   decide
  ·obtain⟨hm,_⟩:=bg.mp hm;obtain⟨n,hn,rfl⟩:=aE.mp hm;have:=bX.mp hn;omega
def v8:aK:=⟨1,8,(.seq (.mr (.many [1,2,3,4,5]) aw) (.seq (.set 6 (.dC (.call 1 (dH aF (aV 1) (aV 99))) (.call 2 (cB aR)))) (.seq (.set 7 (.dC (.call 1 (dH bj (aV 1) (aV 99))) (.call 2 (cB cW)))) (.seq (.ret (.dC fE (.dC js (.call 1 (dH ff (aV 0) (aV 9999)))))) .pass))))⟩
def N6:aK:=⟨1,1,(.seq (.ifs (.gX (.cO (.dQ (.chain .LtE .LtE (aV 1) (bu aw (aV 0)) (aV 99)))) (.gX (.cO (.dQ (.chain .LtE .LtE (aV 1) (bu aw (aV 2)) (aV 99)))) (.cO (.dQ (.chain .LtE .LtE (aV 0) (bu aw (aV 4)) (aV 9999)))))) (.seq (.ret (.lit (.bl false))) .pass) .pass) (.seq (.ret (.dC (.call 8 (cB (bu aw (aV 1)))) (.call 8 (cB (bu aw (aV 3)))))) .pass))⟩
structure a8 where
 lo:Int
 lm:List Int
 up:Int
 um:List Int
 yr:Int
def a8.d(c:a8):D:=.tup [.int c.lo,.tup (c.lm.map .int),.int c.up,.tup (c.um.map .int),.int c.yr]
def i0(c:a8):Bool:=((decide (1<=c.lo)&&decide (c.lo<=99))&&gm 0 c.lm)&&(((decide (1<=c.up)&&decide (c.up<=99))&&gm 0 c.um)&&(decide (0<=c.yr)&&decide (c.yr<=9999)))
section
variable{T:Nat->Option aK}{d:Nat}
theorem U7(h1:NF T)(h2:T 2=some I9)(nK:T 12=some v8){c:a8}(h:Q (.bl (i0 c)) g):b0 T (k+4) 12 [c.d] g Q E:=by
 refine call_of nK rfl ?_;dsimp[v8,b5,List.replicate,a8.d];walk_at "w3";refine A9 h1 ?_;have s1:∀b:Bool,b=((decide (1<=c.lo)&&decide (c.lo<=99))&&gm 0 c.lm)->wpS (b0 T (k+3)) (A5 (A5 v8.body)) ⟨λ_ g'=>Q .bc g',Q,λ_ _=>False,λ_ _=>False⟩ [some c.d,some (.int c.lo),some (.tup (c.lm.map .int)),some (.int c.up),some (.tup (c.um.map .int)),some (.int c.yr),some (.bl b),none] g E:=by
  intro b hb;dsimp[v8,A5];walk_at "w3";refine A9 h1 ?_;have s2:∀b':Bool,b'=((decide (1<=c.up)&&decide (c.up<=99))&&gm 0 c.um)->wpS (b0 T (k+3)) (A5 (A5 (A5 v8.body))) ⟨λ_ g'=>Q .bc g',Q,λ_ _=>False,λ_ _=>False⟩ [some c.d,some (.int c.lo),some (.tup (c.lm.map .int)),some (.int c.up),some (.tup (c.um.map .int)),some (.int c.yr),some (.bl b),some (.bl b')] g E:=by
   intro b' iN;dsimp[v8,A5];have e:i0 c=(b&&(b'&&(decide (0<=c.yr)&&decide (c.yr<=9999)))):=by unfold i0;rw[hb,iN]
   rw[e] at h;walk_at "w3";cases b
   ·exact oO h
   ·refine ji ?_;walk_at "w3";cases b'
    ·exact oO h
    ·refine ji ?_;walk_at "w3";exact A9 h1 h
  refine wW ?_;cases hc:(decide (1<=c.up)&&decide (c.up<=99)) with
  |false=>exact oO (s2 false (by rw[hc];rfl))
  |true =>
   refine ji ?_;walk_at "w1";walk_at "w1";walk_at "w1";walk_at "w1";exact HY h1 h2 (s2 _ (by rw[hc];rfl))
 refine wW ?_;cases hc:(decide (1<=c.lo)&&decide (c.lo<=99)) with
 |false=>exact oO (s1 false (by rw[hc];rfl))
 |true =>
  refine ji ?_;walk_at "w1";walk_at "w1";walk_at "w1";walk_at "w1";exact HY h1 h2 (s1 _ (by rw[hc];rfl))
theorem YG(h8:T 8=some U1)(zT:T 13=some N6){c:a8}(h:∀g',Gr d g g'->(l7 g d->l7 g' d)->Q (.bl (i0 c)) g'):b0 T (k+2) 13 [c.d] g Q E:=by
 refine call_of zT rfl ?_;have no:i0 c=false->Q (.bl false) g:=λe=>by
  have:=h g (Gr.refl _ _) id
  rwa [e] at this
 dsimp[N6,b5,List.replicate,a8.d];walk_at "w3";have fin:i0 c=(gm 0 c.lm&&gm 0 c.um)->wpS (b0 T (k+1)) (A5 N6.body) ⟨λ_ g'=>Q .bc g',Q,λ_ _=>False,λ_ _=>False⟩ [some c.d] g E:=λe=>by
  dsimp[N6,A5,a8.d];walk_at "w3";refine HM h8 (d:=d) λg1 G1 D1=>?_;rw[<- GV];refine wW ?_;have h':=h;rw[e] at h';cases hl:gm 0 c.lm with
  |false =>
   rw[hl,ng] at h';exact oO (h' g1 G1 D1)
  |true =>
   rw[hl,oX] at h';refine ji ?_;walk_at "w3";refine HM h8 (d:=d) λg2 G2 D2=>?_;rw[<- GV];exact h' g2 (G1.trans G2) λz=>D2 (D1 z)
 have out:i0 c=false->wpS (b0 T (k+1)) (.seq (.ret (.lit (.bl false))) .pass) ⟨λhZ g1=>wpS (b0 T (k+1)) (A5 N6.body) ⟨λ_ g'=>Q .bc g',Q,λ_ _=>False,λ_ _=>False⟩ hZ g1 E,Q,λ_ _=>False,λ_ _=>False⟩ [some c.d] g E:=λe=>by
  walk_at "w3";exact no e
 refine if2 (λc1=>?_) (λc1=>?_)
 ·walk_at "w3";cases c2:decide (c.lo<=99) with
  |false=>exact out (by unfold i0;rw[c2];simp)
  |true =>
   walk_at "w3";refine if2 (λc3=>?_) (λc3=>?_)
   ·walk_at "w3";cases c4:decide (c.up<=99) with
    |false=>exact out (by unfold i0;rw[c4];simp)
    |true =>
     walk_at "w3";refine if2 (λc5=>?_) (λc5=>?_)
     ·walk_at "w3";cases c6:decide (c.yr<=9999) with
      |false=>exact out (by unfold i0;rw[c6];simp)
      |true=>exact fin (by unfold i0;rw[aH c1,c2,aH c3,c4,aH c5,c6];simp)
     ·walk_at "w3";exact no (by unfold i0;rw[aM c5];simp)
   ·walk_at "w3";exact no (by unfold i0;rw[aM c3];simp)
 ·walk_at "w3";exact no (by unfold i0;rw[aM c1];simp)
end
theorem l7.Ue{d x:Nat}(h:l7 g d)(hx:d<x):l7 (g.set x o) d:=by
 obtain⟨s,p,b,r,xs,e1,e2,hs,q⟩:=h.ex;exact⟨s,p,b,r,xs,by rw[aB ()];exact e1,by rw[aB ()];exact e2,hs,q⟩
theorem a9:(g++[o])[g.length]?=some o:=by simp
theorem wZ(h:g[i]?=some o):(g++[o'])[i]?=some o:=by rw[aI (j2 h)];exact h
theorem get_set(h:g[i]?=some o):(g.set i o')[i]?=some o':=aY (j2 h)
theorem a7(h:g[i]?=some o)(hn:j≠i):(g.set j o')[i]?=some o:=by rw[aB hn];exact h
def xj:aK:=⟨1,5,(.seq (.set 1 (.prim .lst (EG (.prim .tup .nil) (cu .tup (aV 0)) (bR .tup (aV 0) (aV 1)) (cu .tup (aV 1)) (.prim .tup (dH (aV 0) (aV 1) (aV 2))) (.prim .tup (qt (aV 0) (aV 1) (aV 2) (aV 7))) (cu .tup (aV 2))))) (.seq (.set 2 (bu aF (.call 4 (dw aw (bu (bR .tup (aV 4) (aV 7)) (cu .int (bR (.cmp .Eq) (.call 4 (dw aw (aV 4))) (aV 0)))))))) (.seq (.set 3 (bu aF (.call 4 (dw aw (aV 5))))) (.seq (.set 4 (bu (.prim .lst (Aa (aV 0) (aV 0) (aV 1400) (aV 1400) (aV 1401) (aV 1))) (.call 4 (dw aw (aV 6))))) (.seq (.ret (.prim .tup (Dn (bR (.bin .Add) (aV 1) (.call 4 (dw aw (aV 3)))) aR (bR (.bin .Add) (aV 1) (.call 4 (dw aw (aV 4)))) bj cW))) .pass)))))⟩
structure sk(c:a8):Prop where
 good:i0 c=true
 l8:c.lm.length<=8
 u8:c.um.length<=8
theorem sk.mk'{lo up yr:Int}{lm um:List Int}(h1:1<=lo)(h2:lo<=99)(h3:1<=up)(h4:up<=99)(h5:0<=yr)(h6:yr<=9999)(h7:gm 0 lm=true)(h8:gm 0 um=true)(h9:lm.length<=8)(EF:um.length<=8):sk ⟨lo,lm,up,um,yr⟩:=by
 refine⟨?_,h9,EF⟩;simp only[i0,h7,h8,decide_eq_true h1,decide_eq_true h2,decide_eq_true h3,decide_eq_true h4,decide_eq_true h5,decide_eq_true h6]
 rfl
def V7:List (List Int):=[[],[0],[0,1],[1],[0,1,2],[0,1,2,7],[2]]
theorem PN:∀ms∈V7,gm 0 ms=true/\ms.length<=8:=by decide
theorem IS{r:Int}(h0:0<=r)(h7:r<7):∃ms,iH (V7.map λms=>D.tup (ms.map .int)) r=some (.tup (ms.map .int))/\gm 0 ms=true/\ms.length<=8:=by
 obtain⟨v,hv,hm⟩:=Bb (l:=V7.map λms=>D.tup (ms.map .int)) h0 (by simpa[V7] using h7);obtain⟨ms,h1,rfl⟩:=aE.mp hm;exact⟨ms,hv,PN ms h1⟩
section
variable{T:Nat->Option aK}{d:Nat}
theorem HA(h4:T 4=some S3)(wy:T 22=some xj)(D0:l7 g d)(h:∀c g',sk c->l7 g' d->Gr d g g'->Q c.d g'):b0 T (k+2) 22 [.ref d] g Q E:=by
 refine call_of wy rfl ?_;dsimp[xj,b5,List.replicate];have dl:=D0.lt;left;have D1:=D0.snoc (.lst (V7.map λms=>D.tup (ms.map .int)));have G1:=Gr.snoc d g (.lst (V7.map λms=>D.tup (ms.map .int)));have e1:(g++[O.lst (V7.map λms=>D.tup (ms.map .int))])[g.length]?=some (.lst (V7.map λms=>D.tup (ms.map .int))):=a9;refine o8 h4 D1 ∅ ∅ λr g2 r0 r1 D2 G2=>?_;left;have e2:=G2.at () e1;have hn:∃n:Int,iH [D.int 4,D.int 7] (if decide (r=0)=true then 1 else 0)=some (.int n)/\0<n/\n<=7:=by
  by_cases hr:r=0
  ·exact⟨7,by rw[aH hr];rfl,by decide,by decide⟩
  ·exact⟨4,by rw[aM hr];rfl,by decide,by decide⟩
 obtain⟨n,en,n0,n7⟩:=hn;refine K6 en ?_;left;refine o8 h4 D2 n0 () λr3 g3 Lm r31 D3 G3=>?_;have e3:=G3.at () e2;obtain⟨lm,el,gl,ll⟩:=IS Lm ();refine O2 (a4 e3) el ?_;left;refine o8 h4 D3 ∅ ∅ λr4 g4 Ll r41 D4 G4=>?_;have e4:=G4.at () e3;obtain⟨um,eu,gu,lu⟩:=IS Ll ();refine O2 (a4 e4) eu ?_;left;have e5:(g4++[O.lst [.int 0,.int 0,.int 1400,.int 1400,.int 1401,.int 1]])[g4.length]?=some (.lst [.int 0,.int 0,.int 1400,.int 1400,.int 1401,.int 1]):=a9;refine o8 h4 (D4.snoc _) ∅ ∅ λr5 g5 Lj Li D5 G5=>?_;have e6:=G5.at (by have:=D4.lt;omega) e5;obtain⟨v,hv,hm⟩:=Bb (l:=[D.int 0,.int 0,.int 1400,.int 1400,.int 1401,.int 1]) Lj (by simpa using Li);have hy:∃y:Int,v=.int y/\0<=y/\y<=9999:=by
  simp only[List.mem_cons,List.mem_nil_iff,or_false] at hm;rcases hm with rfl|rfl|rfl|rfl|rfl|rfl<;>exact⟨_,rfl,by decide,by decide⟩
 obtain⟨y,rfl,y0,y1⟩:=hy;refine O2 (a4 e6) hv ?_;left;refine o8 h4 D5 ∅ ∅ λr6 g6 r60 r61 D6 G6=>?_;left;refine o8 h4 D6 ∅ ∅ λr7 g7 r70 r71 D7 G7=>?_;left;exact h ⟨1+r6,lm,1+r7,um,y⟩ _ (sk.mk' () () () () y0 y1 gl gu ll lu) D7 (G1.trans (G2.trans (G3.trans (G4.trans ((Gr.snoc _ _ _).trans (G5.trans (G6.trans G7)))))))
end
def E9:aK:=⟨1,1,(.seq (.ifs (.cO (.dQ (.call 1 (dH aw (aV 1) (aV 9))))) (.seq (.raise "BadAnvils" (cB (bU "there are from one to nine anvils"))) .pass) .pass) .pass)⟩
def Cf:aK:=⟨2,2,(.seq (.ifs (cI .Eq (.call 4 (dw aw (aV 12))) (aV 7)) (.seq (.ret (.call 5 (cB aw))) .pass) .pass) (.seq (.ret (bR (.bin .Sub) (.call 4 (dw aw (bR (.bin .Add) aF (aV 4)))) (aV 2))) .pass))⟩
def xc:aK:=⟨2,2,(.seq (.ret (cu .all (.comp [1] 3 (.one 2) (.eN aw) .no (bR (.cmp .In) aR aw)))) .pass)⟩
def L8:aK:=⟨1,1,(.seq (.ifs (.cO (.dQ (.call 12 (cB aw)))) (.seq (.raise "BadCoin" (cB (bU "it is no coin"))) .pass) .pass) .pass)⟩
def Y8:aK:=⟨1,2,(.seq (.ifs (cI .Gt (cu .len aw) (aV 9)) (.seq (.raise "TooMany" (cB (bU "at most nine coins are asked about at once"))) .pass) .pass) (.seq (.eF (.one 1) (.eN aw) (.seq (.expr (.call 39 (cB aF))) .pass)) .pass))⟩
def S5:aK:=⟨1,1,(.seq (.ifs (cI .NotIn aw (.lit (.tup [(.str "lower"),(.str "upper")]))) (.seq (.raise "BadSide" (cB (bU "a side is lower or upper"))) .pass) .pass) .pass)⟩
def Bv:aK:=⟨1,1,(.seq (.expr (.call 40 (cB aw))) (.seq (.ret (bR .lX (.lit (.tup [(.tup [(.str "lower"),(.int 0)]),(.tup [(.str "upper"),(.int 2)])])) aw)) .pass))⟩
noncomputable abbrev Di(T:Nat->Option aK):Prop:=T 18=some Y8/\T 39=some L8
noncomputable abbrev xU(T:Nat->Option aK):Prop:=T 19=some Bv/\T 40=some S5
structure Ex(g g':G):Prop where
 len:g.length<=g'.length
 old:∀i,i<g.length->g'[i]?=g[i]?
theorem Ex.refl(g:G):Ex g g:=⟨au _,λ_ _=>rfl⟩
theorem Ex.trans{g g1 g2:G}(a:Ex g g1)(b:Ex g1 g2):Ex g g2:=⟨aA a.len b.len,λi h=>(b.old i (ay h a.len)).trans (a.old i h)⟩
theorem Ex.snoc(g:G)(o:O):Ex g (g++[o]):=⟨by simp,λi h=>aI h⟩
theorem Ex.at(h:Ex g g')(e:g[i]?=some o):g'[i]?=some o:=(h.old i (j2 e)).trans e
theorem Ex.gr(h:Ex g g')(d:Nat):Gr d g g':=⟨h.len,λi _ h2=>h.old i h2⟩
theorem Ex.draw{d:Nat}(h:Ex g g')(D0:l7 g d):l7 g' d:=by
 obtain⟨s,p,b,r,xs,e1,e2,q⟩:=D0.ex;exact⟨s,p,b,r,xs,h.at e1,h.at e2,q⟩
inductive j7(g:G):Nat->D->D->Prop
 |bc {n:Nat}:j7 g n .bc .bc
 |bl {n:Nat} (b:Bool):j7 g n (.bl b) (.bl b)
 |int {n:Nat} (i:Int):j7 g n (.int i) (.int i)
 |str {n:Nat} (x:Str):j7 g n (.str x) (.str x)
 |tup {n:Nat} {l m:List D} (hl:l.length=m.length) (h:∀(i:Nat) x y,l[i]?=some x->m[i]?=some y->j7 g n x y) (hz:m.length<=1000):j7 g (n+1) (.tup l) (.tup m)
 |lst {n a b:Nat} {l m:List D} (ha:g[a]?=some (.lst l)) (hb:g[b]?=some (.lst m)) (hl:l.length=m.length) (h:∀(i:Nat) x y,l[i]?=some x->m[i]?=some y->j7 g n x y) (hz:m.length<=1000):j7 g (n+1) (.ref a) (.ref b)
theorem j7.ex(e:Ex g g'){x:D}(h:j7 g n x y):j7 g' n x y:=by
 induction h with
 |bc=>exact .bc
 |bl b=>exact .bl b
 |int i=>exact .int i
 |str x=>exact .str x
 |tup hl h hz ih=>exact .tup hl ih hz
 |lst ha hb hl h hz ih=>exact .lst (e.at ha) (e.at hb) hl ih hz
section
variable{T:Nat->Option aK}
theorem Kn(h6:T 6=some vk){i:Int}(h:Q (.bl true) g):b0 T (k+1) 6 [.int i] g Q E:=by
 refine call_of h6 rfl ?_;dsimp[vk,b5,List.replicate];left;refine fT (c:="int") (b:=true) ∅ rfl ?_;left;refine fT (c:="bool") (b:=false) ∅ rfl ?_;left;exact h
def PH:MS:=match E4.body with
 |.seq _ (.seq _ (.seq _ (.seq _ (.seq _ b))))=>b
 |x=>x
theorem F0(h6:T 6=some vk)(h7:T 7=some E4):∀(n:Nat) {k:Nat} {g:G} {x y:D} {Q:KD} {E:KX},j7 g n x y->(∀g',Ex g g'->Q (.bl true) g')->b0 T (k+n+2) 7 [x,y] g Q E:=by
 have sJ:∀(n:Nat),(∀{k:Nat} {g:G} {x y:D} {Q:KD} {E:KX},j7 g n x y->(∀g',Ex g g'->Q (.bl true) g')->b0 T (k+n+2) 7 [x,y] g Q E) ->
   ∀{k:Nat} {g:G} {x y:D} {l m:List D} {Q:KD} {E:KX},(∀g',Ex g g'->D9 g' x=some l)->(∀g',Ex g g'->D9 g' y=some m)->l.length=m.length->m.length<=1000->(∀(i:Nat) x y,l[i]?=some x->m[i]?=some y->j7 g n x y)->(∀g',Ex g g'->Q (.bl true) g') ->
   wpS (b0 T (k+n+2)) PH ⟨λ_ g'=>Q .bc g',Q,λ_ _=>False,λ_ _=>False⟩ [some x,some y] g E:=by
  intro n ih k g x y l m Q E hx hy hl hz hs hQ;have len:∀(z:D) (l:List D) (g':G) (Q':KD),D9 g' z=some l->Q' (.int l.length) g'->cF .len [z] g' Q':=λz l g' Q' e q=>⟨_,_,⟨rfl,.inl ⟨z,l,rfl,e,rfl⟩⟩,q⟩
  refine Gb (Ga (Ge (rG (xB (w_var rfl (len _ _ _ _ (hx g (Ex.refl g)) ?_))))));refine xB (w_var rfl (len _ _ _ _ (hy g (Ex.refl g)) ?_));refine Fu ?_;rw[hl,aH rfl];left;refine P7 (a5 T _) (vj (a5 T _) ?_);refine xB (w_var rfl (len _ _ _ _ (hy g (Ex.refl g)) ?_));refine⟨_,rfl,by omega,by omega,z9 0 m.length,λi ys Z g'=>∃z w,ys=List.replicate i (.bl true)/\Z=[some y,some x,z,w]/\Ex g g',by rw[H9];exact hz,λi ys Z g' p=>⟨J9,?_⟩,⟨none,none,rfl,rfl,Ex.refl g⟩,λi z ys Z g' hz p=>?_,λys Z g' p=>?_⟩
  ·obtain⟨z,w,rfl,_⟩:=p;simp
  ·obtain⟨z,w,rfl,rfl,e⟩:=p;obtain⟨hi,rfl⟩:=N1 hz;have h1:l[i]?=some l[i]:=ak ();have h2:m[i]?=some m[i]:=ak hi;have a1:iH l (0+(i:Int))=some l[i]:=by rw[gQ];exact O8 h1
   have a2:iH m (0+(i:Int))=some m[i]:=by rw[gQ];exact O8 h2
   show dF _ _ _ _ _ _;refine L4 (ji (Iu (uY (rG (w_var rfl (w_var rfl ⟨_,_,⟨rfl,.inl ⟨_,l,_,rfl,hx g' e,a1⟩⟩,?_⟩))))));refine uY (rG (w_var rfl (w_var rfl ⟨_,_,⟨rfl,.inl ⟨_,m,_,rfl,hy g' e,a2⟩⟩,?_⟩)));refine Co (ih ((hs i _ _ h1 h2).ex e) λg2 e2=>?_);exact⟨_,_,by rw[List.replicate_succ'],rfl,e.trans e2⟩
  ·obtain⟨z,w,rfl,rfl,e⟩:=p;refine BW (a4 a9) (v:=true) ?_ (hQ _ (e.trans (Ex.snoc _ _)));have:List.replicate (z9 0 m.length).length (D.bl true)=(List.replicate (z9 0 m.length).length true).map D.bl:=by simp
   rw[this,Br];simp
 intro n
 induction n with
 |zero =>
  intro k g x y Q E h hQ;have h0:=hQ g (Ex.refl g);cases h with
  |bc =>
   refine call_of h7 rfl ?_;dsimp[E4,b5,List.replicate];left;exact h0
  |bl b=>exact IP h7 (by simpa using h0)
  |int i =>
   refine call_of h7 rfl ?_;dsimp[E4,b5,List.replicate];left;refine fT (c:="bool") (b:=false) ∅ rfl ?_;left;refine fT (c:="int") (b:=true) ∅ rfl ?_;left;refine Kn h6 ?_;left;simpa using h0
  |str x =>
   refine call_of h7 rfl ?_;dsimp[E4,b5,List.replicate];left;refine fT (c:="bool") (b:=false) ∅ rfl ?_;left;refine fT (c:="int") (b:=false) ∅ rfl ?_;left;refine fT (c:="str") (b:=true) ∅ rfl ?_;left;refine fT (c:="str") (b:=true) ∅ rfl ?_;left;simpa using h0
 |succ n ih =>
  intro k g x y Q E h hQ;have h0:=hQ g (Ex.refl g);cases h with
  |bc =>
   refine call_of h7 rfl ?_;dsimp[E4,b5,List.replicate];left;exact h0
  |bl b=>exact IP h7 (by simpa using h0)
  |int i =>
   refine call_of h7 rfl ?_;dsimp[E4,b5,List.replicate];left;refine fT (c:="bool") (b:=false) ∅ rfl ?_;left;refine fT (c:="int") (b:=true) ∅ rfl ?_;left;refine Kn h6 ?_;left;simpa using h0
  |str x =>
   refine call_of h7 rfl ?_;dsimp[E4,b5,List.replicate];left;refine fT (c:="bool") (b:=false) ∅ rfl ?_;left;refine fT (c:="int") (b:=false) ∅ rfl ?_;left;refine fT (c:="str") (b:=true) ∅ rfl ?_;left;refine fT (c:="str") (b:=true) ∅ rfl ?_;left;simpa using h0
  |@tup _ l m hl hs hz =>
   refine call_of h7 rfl ?_;have body:=sJ n ih (k:=k) (x:=.tup l) (y:=.tup m) (E:=E) (λ_ _=>rfl) (λ_ _=>rfl) hl hz hs hQ;dsimp[E4,b5,List.replicate];left;refine fT (c:="bool") (b:=false) ∅ rfl ?_;left;refine fT (c:="int") (b:=false) ∅ rfl ?_;left;refine fT (c:="str") (b:=false) ∅ rfl ?_;left;refine fT (c:="tuple") (b:=true) ∅ rfl ?_;left;refine fT (c:="tuple") (b:=true) ∅ rfl ?_;left;refine eO rfl ?_;left;refine fT (c:="list") (b:=false) ∅ rfl ?_;left;refine fT (c:="list") (b:=false) ∅ rfl ?_;left;refine eO rfl (Z8 ?_);exact body
  |@lst _ a b l m ha hb hl hs hz =>
   refine call_of h7 rfl ?_;have body:=sJ n ih (k:=k) (x:=.ref a) (y:=.ref b) (E:=E) (λg' e=>a4 (e.at ha)) (λg' e=>a4 (e.at hb)) hl hz hs hQ;have ta:∀c,qb g (.ref a) c=some (c=="list"):=λc=>by simp only[qb,ha]
   have tb:∀c,qb g (.ref b) c=some (c=="list"):=λc=>by simp only[qb,hb]
   dsimp[E4,b5,List.replicate];left;refine fT (c:="bool") (b:=false) ∅ (tb _) ?_;left;refine fT (c:="int") (b:=false) ∅ (tb _) ?_;left;refine fT (c:="str") (b:=false) ∅ (tb _) ?_;left;refine fT (c:="tuple") (b:=false) ∅ (tb _) ?_;left;refine fT (c:="tuple") (b:=false) ∅ (ta _) ?_;left;refine eO rfl ?_;left;refine fT (c:="list") (b:=true) ∅ (tb _) ?_;left;refine fT (c:="list") (b:=true) ∅ (ta _) ?_;left;refine eO rfl (Z8 ?_);exact body
end
theorem Ex.TL(h:Gr g.length g g'):Ex g g':=⟨h.len,λi hi=>h.old i () hi⟩
def nh(a b:List Int):Bool:=a.all λs=>b.any λm=>m==s
section
variable{T:Nat->Option aK}{d:Nat}
theorem Hc(oA:T 15=some xc){a b:List Int}(ha:a.length<=1000)(h:∀g',Ex g g'->Q (.bl (nh a b)) g'):b0 T (k+1) 15 [.tup (a.map .int),.tup (b.map .int)] g Q E:=by
 refine call_of oA rfl ?_;dsimp[xc,b5,List.replicate];left;refine P7 (a5 T _) (yF (a5 T _) ?_);left;refine⟨_,rfl,_,λi ys Z g'=>∃z w,ys=((a.take i).map λs=>b.any λm=>m==s).map D.bl/\Z=[some (.tup (b.map .int)),z,w]/\g'=g,by simpa using ha,λi ys Z g' p=>⟨J9,?_⟩,⟨none,none,rfl,rfl,rfl⟩,λi x ys Z g' hx p=>?_,λys Z g' p=>?_⟩
 ·obtain⟨z,w,rfl,_⟩:=p;simp;omega
 ·obtain⟨z,w,rfl,rfl,rfl⟩:=p;rw[ah,aa] at hx;obtain⟨s,hs,rfl⟩:=hx;left;refine rg (GL ?_);refine⟨_,_,?_,rfl,rfl⟩;rw[bt,hs];simp
 ·obtain⟨z,w,rfl,rfl,rfl⟩:=p;refine BW (a4 a9) (Br _) ?_;have e:((a.take (a.map D.int).length).map λs=>b.any λm=>m==s).all id=nh a b:=by
   simp[nh,List.all_map]
  rw[e];exact h _ (Ex.snoc _ _)
theorem RP(hx:PyData.strOk x=true)(h:kb (decide (x="lower")||decide (x="upper"))):mD g (.str x) (.tup [.str "lower",.str "upper"]) kb:=by
 refine⟨_,.inr ⟨_,[.str "lower",.str "upper"],.str x,rfl,rfl,rfl,by decide +kernel,by exact hx,rfl⟩,?_⟩;have e:∀y:Str,PyData.eqv (.str y) (.str x)=decide (x=y):=λy=>by
  simp only[PyData.eqv];rw[bh,fM,cJ];exact eq_comm
 simp only[List.any_cons,List.any_nil,Bool.or_false,e];exact h
theorem aB4(Nk:T 40=some S5)(ho:PyData.strOk x=true)(h1:x="lower"\/x="upper"->Q .bc g)(h3:x≠"lower"->x≠"upper"->E ⟨"BadSide"⟩ g):b0 T (k+1) 40 [.str x] g Q E:=by
 refine call_of Nk rfl ?_;dsimp[S5,b5,List.replicate];left;refine P5 (RP ho ?_);left;by_cases e:x="lower"\/x="upper"
 ·refine eO (by rw[Bool.not_eq_false',et,cJ,cJ];exact e) ?_;exact h1 e
 ·refine fF (by rw[Bool.not_eq_true',Bool.or_eq_false_iff,qo,qo];exact not_or.mp e) ?_;left;exact h3 (λz=>e (.inl z)) (λz=>e (.inr z))
theorem F8(jU:xU T)(ho:PyData.strOk x=true)(h1:x="lower"->Q (.int 0) g)(h2:x="upper"->Q (.int 2) g)(h3:x≠"lower"->x≠"upper"->E ⟨"BadSide"⟩ g):b0 T (k+2) 19 [.str x] g Q E:=by
 refine call_of jU.1 rfl ?_;dsimp[Bv,b5,List.replicate];left;refine aB4 jU.2 ho (λhx=>?_) h3;left;by_cases e1:x="lower"
 ·have el:P2 [.tup [.str "lower",.int 0],.tup [.str "upper",.int 2]] x=some (.int 0):=by simp[P2,e1]
  refine FA el ?_;exact h1 e1
 ·have e2:x="upper":=hx.resolve_left e1;have el:P2 [.tup [.str "lower",.int 0],.tup [.str "upper",.int 2]] x=some (.int 2):=by simp[P2,e1];simp[e2]
  refine FA el ?_;exact h2 e2
def CB(c:a8):Prop:=c.lm.length<=8/\c.um.length<=8
theorem Ib(h1:NF T)(h2:T 2=some I9)(nK:T 12=some v8)(oz:Di T)(ha:g[a]?=some (.lst (cs.map a8.d)))(hz:cs.length<=1000)(hm:9<cs.length->E ⟨"TooMany"⟩ g)(hb:cs.length<=9->cs.all i0=false->E ⟨"BadCoin"⟩ g)(h:cs.length<=9->cs.all i0=true->Q .bc g):b0 T (k+6) 18 [.ref a] g Q E:=by
 refine call_of oz.1 rfl ?_;dsimp[Y8,b5,List.replicate];left;rw[av];refine if2 (λc=>?_) (λc=>?_)
 ·left;exact hm ()
 have h9:cs.length<=9:=by omega
 left;refine K3 (a5 T _) (jC (a5 T _) ?_);left;refine⟨a,_,rfl,a4 ha,cs.map a8.d,λi Z g'=>∃z,Z=[some (.ref a),z]/\g'=g/\(cs.take i).all i0=true,λi Z g' p=>?_,⟨none,rfl,rfl,by simp⟩,λi x Z g' hx p=>?_,λZ g' p=>?_⟩
 ·obtain⟨z,rfl,rfl,_⟩:=p;exact l6 (a4 ha)
 ·obtain⟨z,rfl,rfl,hg⟩:=p;rw[ah,aa] at hx;obtain⟨c,hc,rfl⟩:=hx;refine j3 ?_;left;refine call_of oz.2 rfl ?_;dsimp[L8,b5,List.replicate];left;refine U7 h1 h2 nK ?_;left;cases e:i0 c with
  |true =>
   refine⟨_,rfl,rfl,?_⟩;rw[bt,hc];simp[hg,e]
  |false =>
   refine Gq ?_;left;refine hb h9 ?_;rw[List.all_eq_false];exact⟨c,aO hc,by rw[e];decide⟩
 ·obtain⟨z,rfl,rfl,hg⟩:=p;rw[av,cg] at hg;exact h h9 hg
end
def Gj(f:Int)(c:a8):Int:=if f=0 then c.lo else c.up
theorem WG{f:Int}(hf:f=0\/f=2)(c:a8):iH [D.int c.lo,D.tup (c.lm.map .int),D.int c.up,D.tup (c.um.map .int),D.int c.yr] f=some (.int (Gj f c)):=by
 rcases hf with rfl|rfl<;>rfl
theorem a30{l:List D}(ha:g[a]?=some (.lst l))(hb:g[b]?=some (.lst l))(h:∀x∈l,(∃i,x=.int i)\/∃y,x=.str y)(hz:l.length<=1000):j7 g 1 (.ref a) (.ref b):=by
 refine .lst ha hb rfl (λi x y hx hy=>?_) hz;rw[hx] at hy;cases hy;rcases h x (aO hx) with⟨j,rfl⟩|⟨y,rfl⟩
 ·exact .int _
 ·exact .str _
def cD:a8:=⟨0,[],0,[],0⟩
noncomputable abbrev fL(cs:List a8)(i:Nat):a8:=cs.getD i cD
theorem rT{c:a8}(h:cs[i]?=some c):fL cs i=c:=by simp[fL,List.getD,h]
inductive RW where
 |jv|lower|upper
def RW.s:RW->Str
 |.jv=>"coin"
 |.lower=>"lower"
 |.upper=>"upper"
structure gB where
 w:RW
 x:Int
 y:Int
def gB.d(r:gB):D:=.tup [.str r.w.s,.int r.x,.int r.y]
def meant(cs:List a8)(w:RW)(x:Int)(i:Nat):Bool:=match w with
 |.jv=>decide ((i:Int)=x)
 |.lower=>decide ((fL cs i).lo=x)
 |.upper=>decide ((fL cs i).up=x)
def iM(cs:List a8)(w:RW)(x:Int):List Nat:=(List.range cs.length).filter (meant cs w x)
def a6(l:List Nat):List D:=l.map λ(i:Nat)=>D.int i
def oj(l:List Nat):Nat:=(l.map (2 ^ ·)).sum
def gU(n:Nat)(p:Nat->Bool):Nat:=oj ((List.range n).filter p)
theorem JQ(n:Nat)(p:Nat->Bool):gU (n+1) p=gU n p+if p n=true then 2 ^ n else 0:=by
 unfold gU oj;rw[hU,cz,bB,List.sum_append];cases h:p n<;>simp[List.filter_cons,h]
theorem Ow(n:Nat)(p:Nat->Bool):gU n p<2 ^ n:=by
 induction n with
 |zero=>simp[gU,oj]
 |succ n ih =>
  rw[JQ,Nat.pow_succ];split<;>omega
theorem Jo(n:Nat)(p:Nat->Bool)(i:Nat):(gU n p).testBit i=(decide (i<n)&&p i):=by
 induction n with
 |zero=>simp[gU,oj]
 |succ n ih =>
  have hl:=Ow n p;rw[JQ];by_cases hp:p n=true
  ·rw[aN hp,Nat.add_comm];rcases eI i n with h|h|h
   ·rw[Nat.testBit_two_pow_add_gt h,ih,aH h,aH ()]
   ·subst h;rw[Nat.testBit_two_pow_add_eq,ih];simp[hp]
   ·rw[Nat.testBit_lt_two_pow (ay (show 2 ^ n+gU n p<2 ^ (n+1) by omega) (xY () h)),aM ()]
    rfl
  ·rw[aG hp,Nat.add_zero,ih];by_cases h:i=n
   ·subst h;simp[hp]
   ·rw[show decide (i<n)=decide (i<n+1) from gD.mpr ()]
theorem AQ(a b:Nat):Builtin.bitAnd (a:Int) (b:Int)=((a &&& b:Nat):Int):=by
 rfl
theorem Xv(a b:Nat):Builtin.bitOr (a:Int) (b:Int)=((a |||b:Nat):Int):=by
 unfold Builtin.bitOr Builtin.bitAnd;have h1:∀x:Nat,decide (0<=Builtin.bitNot (x:Int))=false:=λx=>by unfold Builtin.bitNot;exact aM ()
 have h2:∀x:Nat,Builtin.bitNot (Builtin.bitNot (x:Int))=x:=λx=>by unfold Builtin.bitNot;omega
 rw[h1,h1];simp only[h2];simp
theorem WD(a b:Nat):((a &&& b:Nat)≠0)↔∃i,a.testBit i=true/\b.testBit i=true:=by
 constructor
 ·intro h;obtain⟨i,hi⟩:=Nat.exists_testBit_of_ne_zero h;rw[Nat.testBit_and,aT] at hi;exact⟨i,hi⟩
 ·rintro⟨i,h1,h2⟩ e;have:(a &&& b).testBit i=true:=by rw[Nat.testBit_and,h1,h2];rfl
  rw[e,Nat.zero_testBit] at this;cases this
theorem wV(s n:Nat)(p:Nat->Bool):((((s &&& gU n p:Nat):Int) != 0)=(List.range n).any λi=>s.testBit i&&p i):=by
 rw[bh,bne_iff_ne,bO];have:(((s &&& gU n p:Nat):Int)≠0)↔((s &&& gU n p:Nat)≠0):=by omega
 rw[this,WD];constructor
 ·rintro⟨i,h1,h2⟩;rw[Jo,aT,eG] at h2;exact⟨i,bX.mpr h2.1,by rw[h1,h2.2];rfl⟩
 ·rintro⟨i,h1,h2⟩;rw[aT] at h2;exact⟨i,h2.1,by rw[Jo,aH (bX.mp h1),h2.2];rfl⟩
def mw(a b:a8):Bool:=(decide (a.lo=b.lo)&&!nh a.lm b.lm)||(decide (a.up=b.up)&&!nh a.um b.um)
def ka(a b:a8):Bool:=decide (0<b.yr)&&decide (b.yr<a.yr)
def rR(cs:List a8)(S:Nat->Bool)(p:Nat):Bool:=(List.range cs.length).any λi=>S i&&mw (fL cs i) (fL cs p)
def uG(cs:List a8)(S:Nat->Bool)(p:Nat):Bool:=(List.range cs.length).any λi=>S i&&ka (fL cs i) (fL cs p)
def vn(cs:List a8)(S:Nat->Bool)(p:Nat)(d:Int):Bool :=
 ((List.range cs.length).any λi=>(S i||decide (i=p))&&decide ((fL cs i).lo=d))&&((List.range cs.length).any λi=>!S i&&decide ((fL cs i).lo=d))
def CV(cs:List a8)(S:Nat->Bool)(p:Nat):Nat:=((j5 (cs.map a8.lo)).filter (vn cs S p)).length
def xN(cs:List a8)(rs:List gB)(S:Nat->Bool)(p:Nat):Bool:=rs.all λr=>!meant cs r.w r.y p||(List.range cs.length).any λi=>S i&&meant cs r.w r.x i
def fault(cs:List a8)(v:Int)(rs:List gB)(S:Nat->Bool)(p:Nat):Str :=
 if rR cs S p=true then "wear" else if uG cs S p=true then "year" else if v<CV cs S p then "anvil" else if xN cs rs S p=true then "" else "rule"
def wA(x:Str):D:=if x="" then .bc else .str x
def Zy:aK:=⟨2,2,(.seq (.ifs (.cO (.dQ (.call 1 (dH aF (aV 0) (bR (.bin .Sub) (cu .len aw) (aV 1)))))) (.seq (.raise "NoPlace" (cB (bU "no coin has that place"))) .pass) .pass) .pass)⟩
def Q3:aK:=⟨3,4,(.seq (.ifs (.cO (.dQ (.call 38 (cB aR)))) (.seq (.ret (.prim .lst .nil)) .pass) .pass) (.seq (.ifs (cI .Eq aF (bU "coin")) (.seq (.ret (.comp [2] 3 (.one 2) (.fk (cu .len aw)) (cI .Eq aR aw) aR)) .pass) .pass) (.seq (.set 3 (.call 19 (cB aF))) (.seq (.ret (.comp [3,2] 5 (.many [3,4]) (.jQ aw) (cI .Eq (bu cW aw) aF) bj)) .pass))))⟩
def xb:aK:=⟨2,3,(.seq (.expr (.call 18 (cB aw))) (.seq (.set 2 (.call 19 (cB aF))) (.seq (.ret (.gp [2] 3 (.one 2) (.eN aw) .no (bu aR aw))) .pass)))⟩
def Bw:aK:=⟨2,5,(.seq (.mr (.many [2,3,4]) aF) (.seq (.ifs (.gX (cI .NotIn aR (.lit (.tup [(.str "coin"),(.str "lower"),(.str "upper")]))) (cI .Eq bj cW)) (.seq (.ret (.lit (.bl false))) .pass) .pass) (.seq (.ret (.dC (bR (.cmp .NotEq) (.call 74 (dH aw aR bj)) (.prim .lst .nil)) (bR (.cmp .NotEq) (.call 74 (dH aw aR cW)) (.prim .lst .nil)))) .pass)))⟩
def Y7:aK:=⟨2,4,(.seq (.eF (.many [2,3]) (.jQ aF) (.seq (.ifs (.cO (.dQ (.call 88 (dw aw bj)))) (.seq (.expr .no) .pass) .pass) .pass)) .pass)⟩
def xn:aK:=⟨1,1,(.seq (.ret (cu .sum (.comp [] 2 (.one 1) (.eN aw) .no (bR (.bin .LShift) (aV 1) aF)))) .pass)⟩
def V8:aK:=⟨2,2,(.seq (.ret (bR (.bin .BitOr) aw (bR (.bin .LShift) (aV 1) aF))) .pass)⟩
def GS:aK:=⟨2,4,(.seq (.eF (.one 2) (.eN (.lit (.tup [(.str "lower"),(.str "upper")]))) (.seq (.set 3 (.call 19 (cB aR))) (.seq (.ifs (.dC (cI .Eq (bu aw bj) (bu aF bj)) (.cO (.dQ (.call 15 (dw (bu aw (bR (.bin .Add) bj (aV 1))) (bu aF (bR (.bin .Add) bj (aV 1)))))))) (.seq (.ret (.lit (.bl true))) .pass) .pass) .pass))) (.seq (.ret (.lit (.bl false))) .pass))⟩
def Cw:aK:=⟨2,2,(.seq (.ret (.chain .Lt .Lt (aV 0) (bu aF (aV 4)) (bu aw (aV 4)))) .pass)⟩
def HL:aK:=⟨1,1,(.seq (.ret (.comp [0] 3 (.one 2) (.eN aw) .no (.call 90 (cB (.comp [2] 4 (.many [2,3]) (.jQ aw) (.dQ (.call 92 (dw bj aw))) aR))))) .pass)⟩
def HV:aK:=⟨1,1,(.seq (.ret (.comp [0] 3 (.one 2) (.eN aw) .no (.call 90 (cB (.comp [2] 4 (.many [2,3]) (.jQ aw) (.dQ (.call 93 (dw bj aw))) aR))))) .pass)⟩
def BI:aK:=⟨1,1,(.seq (.ret (.comp [0] 3 (.one 2) (.eN (.call 20 (dw aw (bU "lower")))) .no (.call 90 (cB (.call 74 (dH aw (bU "lower") aR)))))) .pass)⟩
def Q9:aK:=⟨2,8,(.seq (.set 2 (.comp [] 2 (.one 1) (.eN aw) .no (.prim .lst .nil))) (.seq (.eF (.many [3,4,5]) (.eN aF) (.seq (.set 6 (.call 90 (cB (.call 74 (dH aw bj cW))))) (.seq (.eF (.one 7) (.eN (.call 74 (dH aw bj ff))) (.seq (.ifs (cI .NotIn fE (bu aR js)) (.seq (.expr (.dI .append (bu aR js) (cB fE))) .pass) .pass) .pass)) .pass))) (.seq (.ret aR) .pass)))⟩
def P1:aK:=⟨3,3,(.seq (.expr (.call 18 (cB aw))) (.seq (.expr (.call 42 (cB aF))) (.seq (.expr (.call 89 (dw aw aR))) .pass)))⟩
def Bu:aK:=⟨3,3,(.seq (.expr (.call 98 (dH aw aF aR))) (.seq (.ret (.make "Bounds" 113 (dH aw aF aR))) .pass))⟩
def BJ:aK:=⟨3,5,(.seq (.set 3 (.call 91 (dw aF aR))) (.seq (.set 4 (bR (.bin .Sub) (cu (.fld "full") aw) aF)) (.seq (.ret (cu .len (.comp [4,3] 4 (.one 3) (.eN (cu (.fld "lower_dies") aw)) (.dC (.dQ (bR (.bin .BitAnd) bj aF)) (.dQ (bR (.bin .BitAnd) bj aw))) bj))) .pass)))⟩
def BK:aK:=⟨3,3,(.seq (.ifs (.dQ (bR (.bin .BitAnd) aF (bu (cu (.fld "worn_by_place") aw) aR))) (.seq (.ret (bU "wear")) .pass) .pass) (.seq (.ifs (.dQ (bR (.bin .BitAnd) aF (bu (cu (.fld "later_by_place") aw) aR))) (.seq (.ret (bU "year")) .pass) .pass) (.seq (.ifs (cI .Gt (.call 100 (dH aw aF aR)) (cu (.fld "room") aw)) (.seq (.ret (bU "anvil")) .pass) .pass) (.seq (.ifs (.cO (.dQ (cu .all (.comp [1] 3 (.one 2) (.eN (bu (cu (.fld "needed_by_place") aw) aR)) .no (bR (.bin .BitAnd) aw aR))))) (.seq (.ret (bU "rule")) .pass) .pass) (.seq (.ret (.lit .bc)) .pass)))))⟩
def Z0:aK:=⟨4,4,(.seq (.fC "size" ["Bounds"] aw (cu .len aF)) (.seq (.fC "full" ["Bounds"] aw (bR (.bin .Sub) (bR (.bin .LShift) (aV 1) (cu .len aF)) (aV 1))) (.seq (.fC "room" ["Bounds"] aw aR) (.seq (.fC "worn_by_place" ["Bounds"] aw (.call 94 (cB aF))) (.seq (.fC "later_by_place" ["Bounds"] aw (.call 95 (cB aF))) (.seq (.fC "lower_dies" ["Bounds"] aw (.call 96 (cB aF))) (.seq (.fC "needed_by_place" ["Bounds"] aw (.call 97 (dw aF bj))) .pass)))))))⟩
section
variable{Z:S}{c:ME}
theorem F9(hP:f9 P)(Sh:S->Prop)(p:Nat->Bool)(w:Nat->D){l:List D}{k:IK}(hk:∀g',Ex g g'->k.Is l g')(hl:l.length<=1000)(h0:Sh (K5 Z c7 n))(hs:∀i d Z g',l[i]?=some d->Ex g g'->Sh Z->jh t d Z λcb=>dF P c cb g' (λb g3=>b=p i/\Ex g g3/\if b=true then aS P elt cb g3 (λy g4=>y=w i/\Ex g g4/\Sh cb) iJ else Sh cb) iJ)(hd:∀g',Ex g g'->Q (.ref g'.length) (g'++[.lst (((List.range l.length).filter p).map w)]))(hi:∀R:IK->G->Prop,R k g->gb P it Z g R E):aS P (.comp c7 n t it c elt) Z g Q E:=by
 refine P7 hP (hi _ ?_);refine⟨l,λi ys Z g'=>Ex g g'/\ys=((List.range i).filter p).map w/\Sh Z,hl,λi ys Z g' q=>⟨hk _ q.1,?_⟩,⟨Ex.refl _,rfl,h0⟩,λi x ys Z g' hx q=>?_,λys Z g' q=>?_⟩
 ·obtain⟨_,rfl,_⟩:=q;rw[av];exact aA (dt _ _) (by simp)
 ·obtain⟨e1,rfl,sh⟩:=q;refine u1 (λcb q=>m4 hP c _ _ _ _ _ _ (λb g3 q=>?_) (λ_ _ z=>z) q) (hs i x Z g' hx e1 sh);obtain⟨rfl,e3,q⟩:=q;have ef:((List.range (i+1)).filter p).map w=((List.range i).filter p).map w++if p i=true then[w i] else[]:=by
   rw[hU,cz,bB];cases z:p i<;>simp only[List.filter_cons,z,List.filter_nil]<;>rfl
  cases hp:p i with
  |true =>
   rw[hp] at q ef;refine b8 hP elt _ _ _ _ _ _ (λy g4 q=>?_) (λ_ _ z=>z) q;obtain⟨rfl,e4,sh⟩:=q;exact⟨e4,by rw[ef];rfl,sh⟩
  |false =>
   simp_all
 ·obtain⟨e1,rfl,sh⟩:=q;exact hd g' e1
theorem comp_map(hP:f9 P)(Sh:S->Prop)(w:Nat->D){l:List D}{k:IK}(hk:∀g',Ex g g'->k.Is l g')(hl:l.length<=1000)(h0:Sh (K5 Z c7 n))(hs:∀i d Z g',l[i]?=some d->Ex g g'->Sh Z->jh t d Z λcb=>aS P elt cb g' (λy g4=>y=w i/\Ex g g4/\Sh cb) iJ)(hd:∀g',Ex g g'->Q (.ref g'.length) (g'++[.lst ((List.range l.length).map w)]))(hi:∀R:IK->G->Prop,R k g->gb P it Z g R E):aS P (.comp c7 n t it .no elt) Z g Q E:=by
 refine F9 hP Sh (λ_=>true) w hk hl h0 (λi d Z g' hx e sh=>u1 (λcb q=>L4 ⟨rfl,e,?_⟩) (hs i d Z g' hx e sh)) (λg' e=>?_) hi
 ·exact ji q
 ·have:=hd g' e
  rwa [show(List.range l.length).filter (λ_=>true)=List.range l.length from fu.mpr λ_ _=>rfl]
theorem rj(hP:f9 P){l:List D}{o:ME}(hl:c9 g a=some l)(h:∀Q:KD,Q (.ref a) g->aS P o Z g Q E):∀R:IK->G->Prop,R (.lst a) g->gb P (.eN o) Z g R E:=λR r=>jC hP (h _ ⟨a,l,rfl,hl,r⟩)
theorem AI{l:List D}{o:ME}(hl:c9 g a=some l)(h:∀Q:KD,Q (.ref a) g->aS P o Z g Q E):∀R:IK->G->Prop,R (.nM a) g->gb P (.jQ o) Z g R E:=λR r=>yG (h _ ⟨a,l,rfl,hl,r⟩)
theorem Gs(hP:f9 P){o:ME}(hj:j<=1000)(h:∀Q:KD,Q (.int (j:Nat)) g->aS P o Z g Q E):∀R:IK->G->Prop,R (.fix (z9 0 j)) g->gb P (.fk o) Z g R E:=λR r=>vj hP (h _ ⟨j,rfl,by omega,by omega,by simpa using r⟩)
end
theorem JC(l:List Nat):a6 l=(l.map λ(i:Nat)=>(i:Int)).map D.int:=by simp[a6]
structure TB0(T:Nat->Option aK):Prop where
 nf:NF T
 h2:T 2=some I9
 nK:T 12=some v8
 oz:Di T
 jU:xU T
 oA:T 15=some xc
 EE:T 20=some xb
 oy:T 74=some Q3
 Ni:T 88=some Bw
 Nh:T 89=some Y7
 qV:T 90=some xn
 qU:T 91=some V8
 Ng:T 92=some GS
 Nf:T 93=some Cw
 Nc:T 94=some HL
 Nb:T 95=some HV
 Na:T 96=some BI
 M':T 97=some Q9
 zY:T 100=some BJ
 zX:T 101=some BK
 zW:T 113=some Z0
structure TB(T:Nat->Option aK):Prop extends TB0 T where
 uc:T 42=some E9
 zD:T 98=some P1
 MZ:T 99=some Bu
instance{T:Nat->Option aK}:CoeOut (TB T) (TB0 T):=⟨TB.toTB0⟩
section
variable{T:Nat->Option aK}{d:Nat}
theorem Yk(h1:NF T)(uc:T 42=some E9){i:Int}(h:1<=i->i<=9->Q .bc g)(hn:¬(1<=i/\i<=9)->E ⟨"BadAnvils"⟩ g):b0 T (k+3) 42 [.int i] g Q E:=by
 refine call_of uc rfl ?_;dsimp[E9,b5,List.replicate];left;refine A9 (k:=k) h1 ?_;left;by_cases hi:1<=i/\i<=9
 ·rw[aH hi.1,aH hi.2];exact h hi.1 hi.2
 ·have:(decide (1<=i)&&decide (i<=9))=false:=by
   simp_all
  rw[this];left;exact hn hi
theorem Q1(h1:NF T)(jU:xU T)(oy:T 74=some Q3){x:Int}(ha:g[a]?=some (.lst (cs.map a8.d)))(hz:cs.length<=1000)(h:∀g' b,Ex g g'->g.length<=b->g'[b]?=some (.lst (a6 (iM cs w x)))->Q (.ref b) g'):b0 T (k+3) 74 [.ref a,.str w.s,.int x] g Q E:=by
 refine call_of oy rfl ?_;dsimp[Q3,b5,List.replicate];left;refine F7 (k:=k+1) h1 ?_;left;have fld:∀f:Int,(f=0\/f=2)->(∀i c,cs[i]?=some c->meant cs w x i=decide (Gj f c=x))->aS (b0 T (k+2)) (.comp [3,2] 5 (.many [3,4]) (.jQ (.var 0)) (.dQ (.prim (.cmp .Eq) (.cons (.prim .ix (.cons (.var 4) (.cons (.var 0) .nil))) (.cons (.var 1) .nil)))) (.var 3)) [some (.ref a),some (.str w.s),some (.int x),some (.int f)] g Q E:=λf hf hm=>by
  refine F9 (a5 T _) (λZ=>∃z2 z3 z4,Z=[some (.int f),some (.int x),z2,z3,z4]) (meant cs w x) (λi=>.int (i:Nat)) (l:=lg (cs.map a8.d)) (λg' e=>wM (a4 (e.at ha))) (by rw[O5];simpa using hz) ⟨none,none,none,rfl⟩ (λi d Z g' hx e sh=>?_) (λg' e=>?_) (AI (a4 ha) λQ q=>w_var (d:=.ref a) rfl q)
  ·obtain⟨z2,z3,z4,rfl⟩:=sh;obtain⟨dd,hd,rfl⟩:=wX hx;rw[ah,aa] at hd;obtain⟨c,hc,rfl⟩:=hd;refine G9 rfl ?_;left;refine K6 (WG hf c) ?_;left;rw[hm i c hc];refine⟨rfl,e,?_⟩;refine if2 (λ_=>?_) (λ_=>?_)
   ·left;exact⟨rfl,e,_,_,_,rfl⟩
   ·exact⟨_,_,_,rfl⟩
  ·rw[O5,av];exact h _ _ (e.trans (Ex.snoc _ _)) e.len a9
 cases w with
 |jv =>
  refine fF (by decide +kernel) ?_;left;refine F9 (a5 T _) (λZ=>∃z1 z2,Z=[some (.int x),z1,z2]) (meant cs .jv x) (λi=>.int (i:Nat)) (l:=z9 0 cs.length) (λg' e=>J9) (by rw[H9];exact hz) ⟨none,none,rfl⟩ (λi d Z g' hx e sh=>?_) (λg' e=>?_) (Gs (a5 T _) hz λQ q=>?_)
  ·obtain⟨z2,z3,rfl⟩:=sh;obtain⟨hi,rfl⟩:=N1 hx;rw[gQ];refine j3 ?_;left;refine⟨rfl,e,?_⟩;refine if2 (λ_=>?_) (λ_=>?_)
   ·left;exact⟨rfl,e,_,_,rfl⟩
   ·exact⟨_,_,rfl⟩
  ·rw[H9];exact h _ _ (e.trans (Ex.snoc _ _)) e.len a9
  ·left;rw[av];exact q
 |lower =>
  refine eO (by decide +kernel) ?_;left;refine F8 (k:=k) jU (by decide +kernel) (λ_=>?_) (λz=>absurd z (by decide +kernel)) (λz=>absurd rfl z);exact fld 0 (.inl rfl) λi c hc=>by simp only[meant,rT hc];rfl
 |upper =>
  refine eO (by decide +kernel) ?_;left;refine F8 (k:=k) jU (by decide +kernel) (λz=>absurd z (by decide +kernel)) (λ_=>?_) (λ_ z=>absurd rfl z);exact fld 2 (.inr rfl) λi c hc=>by simp only[meant,rT hc];rfl
theorem P0(qV:T 90=some xn)(ha:g[a]?=some (.lst (a6 l)))(hz:l.length<=1000)(hl:∀i∈l,i<=1000)(h:∀g',Ex g g'->Q (.int (oj l:Nat)) g'):b0 T (k+1) 90 [.ref a] g Q E:=by
 refine call_of qV rfl ?_;dsimp[xn,b5,List.replicate];left;refine comp_map (a5 T _) (λZ=>∃z0 z1,Z=[z0,z1]) (λi=>.int ((2 ^ (l.getD i 0):Nat):Int)) (l:=a6 l) (k:=.lst a) (λg' e=>l6 (a4 (e.at ha))) (by simpa[a6] using hz) ⟨none,none,rfl⟩ (λi d Z g' hx e sh=>?_) (λg' e=>?_) (rj (a5 T _) (a4 ha) λQ q=>w_var (d:=.ref a) rfl q)
 ·obtain⟨z0,z1,rfl⟩:=sh;rw[a6,ah,aa] at hx;obtain⟨j,hj,rfl⟩:=hx;refine j3 ?_;left;have:=hl j (aO hj);refine BV ⟨by omega,by omega,by decide⟩ ?_;refine⟨?_,e,_,_,rfl⟩;simp[List.getD,hj]
 ·refine FV (ns:=(List.range l.length).map λi=>((2 ^ (l.getD i 0):Nat):Int)) (a4 (by simpa[a6] using a9)) ?_;have:((List.range l.length).map λi=>((2 ^ (l.getD i 0):Nat):Int)).sum=(oj l:Nat):=by
   have e2:(List.range l.length).map (λi=>((2 ^ (l.getD i 0):Nat):Int))=(l.map (2 ^ ·)).map λ(n:Nat)=>(n:Int):=by
    refine jK λi=>?_;rw[ah,ah,ah];by_cases hi:i<l.length
    ·simp[List.getD,hi]
    ·rw[ba (by simpa using hi),ba ()]
     rfl
   rw[e2];unfold oj;generalize l.map (2 ^ ·)=m
   induction m with
   |nil=>rfl
   |cons x r ih=>simp[ih]
  rw[this];exact h _ (e.trans (Ex.snoc _ _))
theorem L3(qU:T 91=some V8){s:Nat}(hp:p<=1000)(h:Q (.int ((s |||2 ^ p:Nat):Int)) g):b0 T (k+1) 91 [.int (s:Nat),.int (p:Nat)] g Q E:=by
 refine call_of qU rfl ?_;dsimp[V8,b5,List.replicate];left;refine BV ⟨by omega,by omega,by decide⟩ ?_;refine SM ?_;have e:(1:Int)*2 ^ ((p:Nat):Int).toNat=((2 ^ p:Nat):Int):=by simp
 rw[e,Xv];exact h
end
section
variable{T:Nat->Option aK}{d:Nat}
theorem Iy{c:a8}(h:CB c):c.lm.length<=1000/\c.um.length<=1000:=⟨aA h.1 ∅,aA h.2 ∅⟩
theorem Z'(hT:TB0 T){c e:a8}(hc:CB c)(h:∀g',Ex g g'->Q (.bl (mw c e)) g'):b0 T (k+3) 92 [c.d,e.d] g Q E:=by
 refine call_of hT.Ng rfl ?_;refine K3 (a5 T _) (yF (a5 T _) ?_);refine⟨_,rfl,_,λi Z g'=>Ex g g'/\(∃z2 z3,Z=[some c.d,some e.d,z2,z3])/\(1<=i->(decide (c.lo=e.lo)&&!nh c.lm e.lm)=false)/\(2<=i->(decide (c.up=e.up)&&!nh c.um e.um)=false),λ_ _ _ _=>J9,⟨Ex.refl _,⟨none,none,rfl⟩,λz=>absurd z (),λz=>absurd z ()⟩,λi x Z g' hx q=>?_,λZ g' q=>?_⟩
 ·obtain⟨e1,⟨z2,z3,rfl⟩,q1,q2⟩:=q;refine j3 ?_
  match i,hx with
  |0,hx =>
   cases hx;left;refine F8 (k:=k) hT.jU (by decide +kernel) (λ_=>?_) (λz=>absurd z (by decide +kernel)) (λz=>absurd rfl z);left;refine K6 (l:=[.int c.lo,.tup (c.lm.map .int),.int c.up,.tup (c.um.map .int),.int c.yr]) rfl ?_;left;refine K6 (l:=[.int e.lo,.tup (e.lm.map .int),.int e.up,.tup (e.um.map .int),.int e.yr]) rfl ?_;left;refine if2 (λh1=>?_) (λh1=>?_)
   ·left;refine K6 (l:=[.int c.lo,.tup (c.lm.map .int),.int c.up,.tup (c.um.map .int),.int c.yr]) rfl ?_;left;refine K6 (l:=[.int e.lo,.tup (e.lm.map .int),.int e.up,.tup (e.um.map .int),.int e.yr]) rfl ?_;left;refine Hc (k:=k+1) hT.oA (Iy hc).1 λg2 e2=>?_;left;cases hw:nh c.lm e.lm with
    |false =>
     left;have:mw c e=true:=by unfold mw;rw[aH h1,hw];rfl
     rw[<- this];exact h _ (e1.trans e2)
    |true =>
     exact⟨e1.trans e2,⟨_,_,rfl⟩,λ_=>by rw[aH h1];rfl,λz=>absurd z ()⟩
   ·exact⟨e1,⟨_,_,rfl⟩,λ_=>by rw[aM h1];rfl,λz=>absurd z ()⟩
  |1,hx =>
   cases hx;left;refine F8 (k:=k) hT.jU (by decide +kernel) (λz=>absurd z (by decide +kernel)) (λ_=>?_) (λ_ z=>absurd rfl z);left;refine K6 (l:=[.int c.lo,.tup (c.lm.map .int),.int c.up,.tup (c.um.map .int),.int c.yr]) rfl ?_;left;refine K6 (l:=[.int e.lo,.tup (e.lm.map .int),.int e.up,.tup (e.um.map .int),.int e.yr]) rfl ?_;left;refine if2 (λh1=>?_) (λh1=>?_)
   ·left;refine K6 (l:=[.int c.lo,.tup (c.lm.map .int),.int c.up,.tup (c.um.map .int),.int c.yr]) rfl ?_;left;refine K6 (l:=[.int e.lo,.tup (e.lm.map .int),.int e.up,.tup (e.um.map .int),.int e.yr]) rfl ?_;left;refine Hc (k:=k+1) hT.oA (Iy hc).2 λg2 e2=>?_;left;cases hw:nh c.um e.um with
    |false =>
     left;have:mw c e=true:=by unfold mw;rw[aH h1,hw];simp
     rw[<- this];exact h _ (e1.trans e2)
    |true =>
     exact⟨e1.trans e2,⟨_,_,rfl⟩,λ_=>q1 (),λ_=>by rw[aH h1];rfl⟩
   ·exact⟨e1,⟨_,_,rfl⟩,λ_=>q1 (),λ_=>by rw[aM h1];rfl⟩
  |i+2,hx=>simp at hx
 ·obtain⟨e1,⟨z2,z3,rfl⟩,q1,q2⟩:=q;have:mw c e=false:=by unfold mw;rw[q1 ∅,q2 ∅];rfl
  rw[<- this];exact h _ e1
theorem RT(hT:TB0 T){c e:a8}(h:Q (.bl (ka c e)) g):b0 T (k+1) 93 [c.d,e.d] g Q E:=by
 refine call_of hT.Nf rfl ?_;dsimp[Cw,b5,List.replicate];left;refine K6 (l:=[.int e.lo,.tup (e.lm.map .int),.int e.up,.tup (e.um.map .int),.int e.yr]) rfl ?_;left;refine if2 (λh1=>?_) (λh1=>?_)
 ·left;refine K6 (l:=[.int c.lo,.tup (c.lm.map .int),.int c.up,.tup (c.um.map .int),.int c.yr]) rfl ?_;left;have:ka c e=decide (e.yr<c.yr):=by unfold ka;rw[aH h1];rfl
  rw[<- this];exact h
 ·have:ka c e=false:=by unfold ka;rw[aM h1];rfl
  rw[<- this];exact h
def qw(cs:List a8)(q:a8->a8->Bool):List D:=(List.range cs.length).map λi=>.int ((gU cs.length λj=>q (fL cs j) (fL cs i):Nat):Int)
theorem uX{q:Nat->Bool}:∀i∈(List.range cs.length).filter q,i<cs.length:=λi hi=>bX.mp (bg.mp hi).1
theorem U8{q:Nat->Bool}:((List.range n).filter q).length<=n:=aA (dt _ _) (by simp)
theorem Rn(hT:TB0 T)(ha:g[a]?=some (.lst (cs.map a8.d)))(hz:cs.length<=9)(hB:∀c∈cs,CB c)(h:∀g' b,Ex g g'->g.length<=b->g'[b]?=some (.lst (qw cs mw))->Q (.ref b) g'):b0 T (k+4) 94 [.ref a] g Q E:=by
 refine call_of hT.Nc rfl ?_;refine comp_map (a5 T _) (λZ=>∃z1 z2,Z=[some (.ref a),z1,z2]) (λi=>.int ((gU cs.length λj=>mw (fL cs j) (fL cs i):Nat):Int)) (l:=cs.map a8.d) (k:=.lst a) (λg' e=>l6 (a4 (e.at ha))) (by simp;omega) ⟨none,none,rfl⟩ (λi d Z g' hx e sh=>?_) (λg' e=>?_) (rj (a5 T _) (a4 ha) λQ q=>w_var (d:=.ref a) rfl q)
 ·obtain⟨z1,z2,rfl⟩:=sh;rw[ah,aa] at hx;obtain⟨c,hc,rfl⟩:=hx;refine j3 ?_;left;refine F9 (a5 T _) (λZ=>∃z1 z2 z3,Z=[some c.d,z1,z2,z3]) (λj=>mw (fL cs j) (fL cs i)) (λi=>.int (i:Nat)) (l:=lg (cs.map a8.d)) (k:=.nM a) (λg2 e2=>wM (a4 ((e.trans e2).at ha))) (by rw[O5];simp;omega) ⟨none,none,none,rfl⟩ (λj d Z g2 hx e2 sh=>?_) (λg2 e2=>?_) (AI (a4 (e.at ha)) λQ q=>w_var (d:=.ref a) rfl q)
  ·obtain⟨z1,z2,z3,rfl⟩:=sh;obtain⟨dd,hd,rfl⟩:=wX hx;rw[ah,aa] at hd;obtain⟨c',mK,rfl⟩:=hd;refine G9 rfl ?_;left;refine Z' (k:=k) hT (hB c' (aO mK)) λg3 e3=>?_;left;refine⟨by simp only[rT mK,rT hc],e2.trans e3,?_⟩;cases mw c' c with
   |true =>
    refine fF rfl ?_;left;exact⟨rfl,e2.trans e3,_,_,_,rfl⟩
   |false=>exact eO rfl ⟨_,_,_,rfl⟩
  ·left;refine P0 (k:=k+2) hT.qV (l:=(List.range cs.length).filter λj=>mw (fL cs j) (fL cs i)) (by have:=a9 (g:=g2) (o:=.lst (((List.range (lg (cs.map a8.d)).length).filter λj=>mw (fL cs j) (fL cs i)).map λi=>D.int (i:Nat)));rw[O5,av] at this ⊢;exact this) (aA U8 ()) (λj hj=>by have:=uX j hj;omega) λg3 e3=>?_;exact⟨rfl,(e.trans (e2.trans (Ex.snoc _ _))).trans e3,_,_,rfl⟩
 ·refine h _ _ (e.trans (Ex.snoc _ _)) e.len ?_;rw[a9,av]
  rfl
theorem a31(hT:TB0 T)(ha:g[a]?=some (.lst (cs.map a8.d)))(hz:cs.length<=9)(h:∀g' b,Ex g g'->g.length<=b->g'[b]?=some (.lst (qw cs ka))->Q (.ref b) g'):b0 T (k+4) 95 [.ref a] g Q E:=by
 refine call_of hT.Nb rfl ?_;refine comp_map (a5 T _) (λZ=>∃z1 z2,Z=[some (.ref a),z1,z2]) (λi=>.int ((gU cs.length λj=>ka (fL cs j) (fL cs i):Nat):Int)) (l:=cs.map a8.d) (k:=.lst a) (λg' e=>l6 (a4 (e.at ha))) (by simp;omega) ⟨none,none,rfl⟩ (λi d Z g' hx e sh=>?_) (λg' e=>?_) (rj (a5 T _) (a4 ha) λQ q=>w_var (d:=.ref a) rfl q)
 ·obtain⟨z1,z2,rfl⟩:=sh;rw[ah,aa] at hx;obtain⟨c,hc,rfl⟩:=hx;refine j3 ?_;left;refine F9 (a5 T _) (λZ=>∃z1 z2 z3,Z=[some c.d,z1,z2,z3]) (λj=>ka (fL cs j) (fL cs i)) (λi=>.int (i:Nat)) (l:=lg (cs.map a8.d)) (k:=.nM a) (λg2 e2=>wM (a4 ((e.trans e2).at ha))) (by rw[O5];simp;omega) ⟨none,none,none,rfl⟩ (λj d Z g2 hx e2 sh=>?_) (λg2 e2=>?_) (AI (a4 (e.at ha)) λQ q=>w_var (d:=.ref a) rfl q)
  ·obtain⟨z1,z2,z3,rfl⟩:=sh;obtain⟨dd,hd,rfl⟩:=wX hx;rw[ah,aa] at hd;obtain⟨c',mK,rfl⟩:=hd;refine G9 rfl ?_;left;refine RT (k:=k+2) hT ?_;left;refine⟨by simp only[rT mK,rT hc],e2,?_⟩;cases ka c' c with
   |true =>
    refine fF rfl ?_;left;exact⟨rfl,e2,_,_,_,rfl⟩
   |false=>exact eO rfl ⟨_,_,_,rfl⟩
  ·left;refine P0 (k:=k+2) hT.qV (l:=(List.range cs.length).filter λj=>ka (fL cs j) (fL cs i)) (by have:=a9 (g:=g2) (o:=.lst (((List.range (lg (cs.map a8.d)).length).filter λj=>ka (fL cs j) (fL cs i)).map λi=>D.int (i:Nat)));rw[O5,av] at this ⊢;exact this) (aA U8 ()) (λj hj=>by have:=uX j hj;omega) λg3 e3=>?_;exact⟨rfl,(e.trans (e2.trans (Ex.snoc _ _))).trans e3,_,_,rfl⟩
 ·refine h _ _ (e.trans (Ex.snoc _ _)) e.len ?_;rw[a9,av]
  rfl
theorem RB(hT:TB0 T)(ha:g[a]?=some (.lst (cs.map a8.d)))(hz:cs.length<=9)(hg:cs.all i0=true)(h:Q (.ref g.length) (g++[.lst ((j5 (cs.map a8.lo)).map .int)])):b0 T (k+7) 20 [.ref a,.str "lower"] g Q E:=by
 refine call_of hT.EE rfl ?_;dsimp[xb,b5,List.replicate];left;refine Ib (k:=k) hT.nf hT.h2 hT.nK hT.oz ha () (λz=>by omega) (λ_ z=>by rw[hg] at z;cases z) λ_ _=>?_;left;refine F8 (k:=k+4) hT.jU (by decide +kernel) (λ_=>?_) (λz=>absurd z (by decide +kernel)) (λz=>absurd rfl z);left;refine Rh (a5 T _) (jC (a5 T _) ?_);left;refine⟨a,_,rfl,a4 ha,cs.map a8.d,λi ys Z g'=>∃z w,ys=(cs.take i).map a8.lo/\Z=[some (.int 0),z,w]/\g'=g,by simp;omega,λi ys Z g' p=>?_,⟨none,none,rfl,rfl,rfl⟩,λi c ys Z g' hx p=>?_,λys Z g' p=>?_⟩
 ·obtain⟨z,w,rfl,rfl,rfl⟩:=p;exact⟨l6 (a4 ha),by simp;omega⟩
 ·obtain⟨z,w,rfl,rfl,rfl⟩:=p;rw[ah,aa] at hx;obtain⟨c,hc,rfl⟩:=hx;left;refine K6 (l:=[.int c.lo,.tup (c.lm.map .int),.int c.up,.tup (c.um.map .int),.int c.yr]) rfl ?_;refine⟨_,rfl,_,_,?_,rfl,rfl⟩;rw[bt,hc];simp
 ·obtain⟨z,w,rfl,rfl,rfl⟩:=p;rw[av,cg];exact h
def Z3(cs:List a8):List D:=(j5 (cs.map a8.lo)).map λd=>.int ((gU cs.length (meant cs .lower d):Nat):Int)
theorem aB2(hT:TB0 T)(ha:g[a]?=some (.lst (cs.map a8.d)))(hz:cs.length<=9)(hg:cs.all i0=true)(h:∀g' b,Ex g g'->g.length<=b->g'[b]?=some (.lst (Z3 cs))->Q (.ref b) g'):b0 T (k+8) 96 [.ref a] g Q E:=by
 refine call_of hT.Na rfl ?_;dsimp[BI,b5,List.replicate];left;have tK:(j5 (cs.map a8.lo)).length<=9:=aA (V5 _) (by simpa using hz);unfold Z3 at h;refine P7 (a5 T _) (jC (a5 T _) ?_);left;refine RB (k:=k) hT ha hz hg ?_;have e0:=Ex.snoc g (O.lst ((j5 (cs.map a8.lo)).map .int));have hb:=a9 (g:=g) (o:=O.lst ((j5 (cs.map a8.lo)).map .int));generalize j5 (cs.map a8.lo)=ds at *;generalize g++[O.lst (ds.map .int)]=g1 at *;refine⟨_,_,rfl,a4 hb,ds.map .int,λi ys Z g'=>Ex g1 g'/\ys=(ds.take i).map (λd=>.int ((gU cs.length (meant cs .lower d):Nat):Int))/\∃z1 z2,Z=[some (.ref a),z1,z2],by simp;omega,λi ys Z g' q=>⟨l6 (a4 (q.1.at hb)),?_⟩,⟨Ex.refl _,rfl,none,none,rfl⟩,λi x ys Z g' hx q=>?_,λys Z g' q=>?_⟩
 ·obtain⟨_,rfl,_⟩:=q;simp;omega
 ·obtain⟨e1,rfl,z1,z2,rfl⟩:=q;rw[ah,aa] at hx;obtain⟨dd,hd,rfl⟩:=hx;refine j3 ?_;left;refine Q1 (k:=k+4) hT.nf hT.jU hT.oy (w:=.lower) ((e0.trans e1).at ha) () λg2 b2 e2 _ tY=>?_;left;refine P0 (k:=k+6) hT.qV tY (aA U8 ()) (λj hj=>by have:=uX j hj;omega) λg3 e3=>?_;refine⟨e1.trans (e2.trans e3),?_,_,_,rfl⟩;rw[bt,hd];simp[gU,iM]
 ·obtain⟨e1,rfl,z1,z2,rfl⟩:=q;rw[av,cg];exact h _ _ (e0.trans (e1.trans (Ex.snoc _ _))) (aA e0.len e1.len) a9
end
theorem GK{i:Int}{k:Bool->Prop}(ha:c9 g a=some (ms.map .int))(h:k (ms.any λm=>m==i)):mD g (.int i) (.ref a) k:=by
 refine⟨_,.inr ⟨_,_,_,ha,L1 ms,rfl,lay_ints ms,by rfl,rfl⟩,?_⟩;rw[sy];exact h
theorem Po{k:Bool->Prop}(ha:g[a]?=some (.lst (a6 l)))(h:k (decide (i∈l))):mD g (.int (i:Nat)) (.ref a) k:=by
 refine GK (ms:=l.map λ(i:Nat)=>(i:Int)) (by rw[<- JC];exact a4 ha) ?_;have:((l.map λ(i:Nat)=>(i:Int)).any λm=>m==(i:Int))=decide (i∈l):=by
  rw[bh,bO,eG];constructor
  ·rintro⟨x,hx,e⟩;obtain⟨j,hj,rfl⟩:=aE.mp hx;rw[fM] at e;rw[show i=j by omega];exact hj
  ·exact λhi=>⟨_,aE.mpr ⟨i,hi,rfl⟩,by simp⟩
 rw[this];exact h
structure mj(g:G)(nb lo n:Nat)(B:Nat->Nat)(F:Nat->Nat->Prop):Prop where
 ex:∃as:List Nat,g[nb]?=some (.lst (as.map .ref))/\as.length=n/\as.Nodup/\(∀a∈as,lo<=a/\a≠nb)/\∀i a,as[i]?=some a->∃ms:List Nat,g[a]?=some (.lst (a6 ms))/\ms.length<=B i/\∀m,m∈ms↔F i m
theorem mj.at{g g':G}{nb lo n:Nat}{B:Nat->Nat}{F:Nat->Nat->Prop}(h:mj g nb lo n B F)(e:Ex g g'):mj g' nb lo n B F:=by
 obtain⟨as,h1,h2,h3,h4,h5⟩:=h.ex;refine⟨⟨as,e.at h1,h2,h3,h4,λi a hi=>?_⟩⟩;obtain⟨ms,m1,m2⟩:=h5 i a hi;exact⟨ms,e.at m1,m2⟩
theorem mj.imp{nb lo:Nat}{B B':Nat->Nat}{F F':Nat->Nat->Prop}(h:mj g nb lo n B F)(hB:∀i,i<n->B i<=B' i)(hF:∀i m,i<n->(F i m↔F' i m)):mj g nb lo n B' F' :=
 let ⟨as,h1,h2,h3,h4,h5⟩:=h.ex
 ⟨⟨as,h1,h2,h3,h4,λi a hi=>let ⟨ms,m1,m2,m3⟩:=h5 i a hi
  have iu:i<n:=by rw[<- h2];exact(ao.mp hi).1
  ⟨ms,m1,aA m2 (hB i iu),λm=>(m3 m).trans (hF i m iu)⟩⟩⟩
def rO(cs:List a8)(rs:List gB)(i m:Nat):Prop:=∃r∈rs,meant cs r.w r.y i=true/\m=gU cs.length (meant cs r.w r.x)
def E8(rs:List gB):List D:=rs.map gB.d
theorem GY{l:List α}(h:l.Nodup){a:α}(hi:l[i]?=some a)(hj:l[j]?=some a):i=j:=by
 obtain⟨h1,e1⟩:=ao.mp hi;obtain⟨h2,e2⟩:=ao.mp hj;exact(List.getElem_inj h).mp (e1.trans e2.symm)
section
variable{T:Nat->Option aK}{d:Nat}
theorem a23(hT:TB0 T)(ha:g[a]?=some (.lst (cs.map a8.d)))(hz:cs.length<=9)(hc:g[c]?=some (.lst (E8 rs)))(hr:rs.length<=900)(h:∀g' b,Ex g g'->g.length<=b->mj g' b g.length cs.length (λ_=>rs.length) (rO cs rs)->Q (.ref b) g'):b0 T (k+4) 97 [.ref a,.ref c] g Q E:=by
 refine call_of hT.M' rfl ?_;dsimp[Q9,b5,List.replicate];left;refine P7 (a5 T _) (jC (a5 T _) ?_);left;refine⟨a,_,rfl,a4 ha,cs.map a8.d,λi ys Z g'=>Ex g g'/\(∃as:List Nat,ys=as.map .ref/\as.length=i/\as.Nodup/\∀b∈as,g.length<=b/\g'[b]?=some (.lst []))/\∃z0 z1,Z=[z0,z1],by simp;omega,λi ys Z g' q=>⟨l6 (a4 (q.1.at ha)),?_⟩,⟨Ex.refl _,⟨[],rfl,rfl,by simp,by simp⟩,none,none,rfl⟩,λi x ys Z g' hx q=>?_,λys Z g' q=>?_⟩
 ·obtain⟨_,⟨as,rfl,rfl,_⟩,_⟩:=q;simp
 ·obtain⟨e1,⟨as,rfl,hl,nd,hA⟩,z0,z1,rfl⟩:=q;refine j3 ?_;left;refine⟨e1.trans (Ex.snoc _ _),⟨as++[g'.length],by simp,by simp[hl],?_,λb hb=>?_⟩,_,_,rfl⟩
  ·rw[dz];exact⟨nd,by simp,λx hx y hy=>by cases bx.mp hy;exact aJ (j2 (hA x hx).2)⟩
  ·rcases bA.mp hb with hb|hb
   ·exact⟨(hA b hb).1,(Ex.snoc _ _).at (hA b hb).2⟩
   ·cases bx.mp hb;exact⟨e1.len,a9⟩
 ·obtain⟨e1,⟨as,rfl,hl,nd,hA⟩,z0,z1,rfl⟩:=q;rw[av] at hl;have e2:=e1.trans (Ex.snoc g' (O.lst (as.map D.ref)));have lo:=e1.len;have N0:mj (g'++[O.lst (as.map D.ref)]) g'.length g.length cs.length (λ_=>0) (rO cs []):=⟨⟨as,a9,hl,nd,λb hb=>⟨(hA b hb).1,aJ (j2 (hA b hb).2)⟩,λi b hb=>⟨[],(Ex.snoc _ _).at (hA b (aO hb)).2,by simp,λm=>⟨λz=>absurd z (by simp),λ⟨r,hr,_⟩=>absurd hr (by simp)⟩⟩⟩⟩
  generalize g'.length=nb at *;refine K3 (a5 T _) (jC (a5 T _) ?_);left;refine⟨c,_,rfl,a4 (e2.at hc),E8 rs,λi Z g'=>Ex g g'/\mj g' nb g.length cs.length (λ_=>i) (rO cs (rs.take i))/\∃z3 z4 z5 z6 z7,Z=[some (.ref a),some (.ref c),some (.ref nb),z3,z4,z5,z6,z7],λi Z g' q=>l6 (a4 (q.1.at hc)),⟨e2,N0,none,none,none,none,none,rfl⟩,λi x Z g' hx q=>?_,λZ g' q=>?_⟩
  ·obtain⟨e3,N3,z3,z4,z5,z6,z7,rfl⟩:=q;rw[E8,ah,aa] at hx;obtain⟨r,mF,rfl⟩:=hx;have hi:i<rs.length:=(ao.mp mF).1;refine G9 (l:=[.str r.w.s,.int r.x,.int r.y]) rfl ?_;left;refine Q1 (k:=k) hT.nf hT.jU hT.oy (e3.at ha) () λg4 b4 e4 _ MO=>?_;left;refine P0 (k:=k+2) hT.qV MO (aA U8 ()) (λj hj=>by have:=uX j hj;omega) λg5 e5=>?_;left;have EM:=e3.trans (e4.trans e5);have N5:=N3.at (e4.trans e5);have ef:oj (iM cs r.w r.x)=gU cs.length (meant cs r.w r.x):=rfl;rw[ef];generalize gU cs.length (meant cs r.w r.x)=first at *
   refine K3 (a5 T _) (jC (a5 T _) ?_);left;refine Q1 (k:=k) hT.nf hT.jU hT.oy (EM.at ha) () λg6 b6 e6 hb6 DZ=>?_;refine⟨b6,_,rfl,a4 DZ,a6 (iM cs r.w r.y),λj Z g'=>Ex g g'/\g'[b6]?=some (.lst (a6 (iM cs r.w r.y)))/\mj g' nb g.length cs.length (λq=>i+if q∈(iM cs r.w r.y).take j then 1 else 0) (λq m=>rO cs (rs.take i) q m\/(q∈(iM cs r.w r.y).take j/\m=first))/\(∀as:List Nat,g'[nb]?=some (.lst (as.map .ref))->b6∉as)/\∃z7,Z=[some (.ref a),some (.ref c),some (.ref nb),some (.str r.w.s),some (.int r.x),some (.int r.y),some (.int (first:Nat)),z7],λj Z g' q=>l6 (a4 q.2.1),⟨EM.trans e6,DZ,(N5.at e6).imp (λq _=>by simp) (λq m _=>by simp),?_,z7,rfl⟩,λj x Z g' hx q=>?_,λZ g' q=>?_⟩
   ·intro wL h' hm;obtain⟨Hi,h1,h2,h3,h4,h5⟩:=N5.ex;have:=(e6.at h1).symm.trans h';have e':Hi=wL:=by
     have h0:Hi.map D.ref=wL.map D.ref:=by injection this with w;injection w
     exact(List.map_inj_right (λx y z=>by injection z)).mp h0
    subst e';obtain⟨i',iu⟩:=eU.mp hm;obtain⟨ms,m1,_⟩:=h5 i' b6 iu;have:=j2 m1;omega
   ·obtain⟨e7,p7,N7,vX,z7,rfl⟩:=q;rw[a6,ah,aa] at hx;obtain⟨q,hq,rfl⟩:=hx;have hqn:q<cs.length:=uX q (aO hq);have Mg:q∉(iM cs r.w r.y).take j:=λz=>by
     obtain⟨j',za⟩:=eU.mp z;have hl:j'<j:=by
      have:=(ao.mp za).1;simp at this;omega
     rw[gj hl] at za;have Lp:(iM cs r.w r.y).Nodup:=List.nodup_range.filter _;have:=GY Lp za hq;omega
    have tk:(iM cs r.w r.y).take (j+1)=(iM cs r.w r.y).take j++[q]:=by rw[bt,hq];rfl
    obtain⟨uD,h1,h2,h3,h4,h5⟩:=N7.ex;have Mb:q<uD.length:=by omega
    have qR:=ak Mb;generalize uD[q]=aq at qR;obtain⟨ms,m1,m2,m3⟩:=h5 q aq qR;have gq:iH (uD.map D.ref) (q:Int)=some (.ref aq):=O8 (by rw[ah,qR];rfl);refine j3 ?_;left;refine O2 (a4 h1) gq ?_;refine P5 (Po m1 ?_);left;by_cases lQ:first∈ms
    ·refine eO (by simp[lQ]) ?_;refine⟨e7,p7,N7.imp (λq' _=>?_) (λq' m _=>?_),vX,_,rfl⟩
     ·rw[tk];by_cases z:q'∈(iM cs r.w r.y).take j
      ·simp[z]
      ·simp[z]
     ·rw[tk];simp only[List.mem_append,List.mem_singleton];constructor
      ·rintro(z|⟨z1,z2⟩)
       ·exact .inl z
       ·exact .inr ⟨.inl z1,z2⟩
      ·rintro(z|⟨z1|z1,z2⟩)
       ·exact .inl z
       ·exact .inr ⟨z1,z2⟩
       ·subst z1 z2;exact(m3 m).mp lQ
    ·refine fF (by simp[lQ]) ?_;left;refine O2 (a4 h1) gq ?_;left;rw[aG Mg] at m2;refine Cg m1 (by simp[a6];omega) ?_;have lP:=aO qR;have fK:=(h4 aq lP).2;have Ml:aq≠b6:=λz=>vX uD h1 (z▸lP);have EH:=a7 (o':=O.lst (a6 ms++[D.int (first:Nat)])) h1 fK;refine⟨⟨by simp;exact e7.len,λi' iu=>by rw[aB (by have:=(h4 aq lP).1;omega)];exact e7.old i' iu⟩,a7 p7 Ml,⟨⟨uD,EH,h2,h3,h4,λi' b hb=>?_⟩⟩,λwL h'=>?_,_,rfl⟩
     ·by_cases wo:i'=q
      ·subst wo;have:b=aq:=by rw[qR] at hb;injection hb with z;exact z.symm
       subst this;refine⟨ms++[first],by rw[get_set m1];simp[a6],?_,λm=>?_⟩
       ·rw[tk];simp;omega
       ·rw[bA,bx,m3 m,tk];simp only[List.mem_append,List.mem_singleton];constructor
        ·rintro((z|⟨z1,z2⟩)|z)
         ·exact .inl z
         ·exact .inr ⟨.inl z1,z2⟩
         ·exact .inr ⟨.inr trivial,z⟩
        ·rintro(z|⟨z1|z1,z2⟩)
         ·exact .inl (.inl z)
         ·exact .inl (.inr ⟨z1,z2⟩)
         ·exact .inr z2
      ·have zj:aq≠b:=λz=>wo (GY h3 hb (z▸qR));obtain⟨DO,k1,k2,k3⟩:=h5 i' b hb;refine⟨DO,a7 k1 zj,?_,λm=>(k3 m).trans ?_⟩
       ·rw[tk];simpa[wo] using k2
       ·rw[tk];simp[wo]
     ·rw[EH] at h';exact vX wL (h1.trans h')
   ·obtain⟨e7,p7,N7,vX,z7,rfl⟩:=q;rw[a6,av,cg] at N7;refine⟨e7,N7.imp (λq _=>by split<;>omega) (λq m hq=>?_),_,_,_,_,_,rfl⟩;have tk:rs.take (i+1)=rs.take i++[r]:=by rw[bt,mF];rfl
    unfold rO;rw[tk];simp only[List.mem_append,List.mem_singleton];constructor
    ·rintro(⟨r',h1,h2⟩|⟨h1,h2⟩)
     ·exact⟨r',.inl h1,h2⟩
     ·exact⟨r,.inr rfl,(bg.mp h1).2,by rw[h2];exact ef.symm⟩
    ·rintro⟨r',h1|h1,h2,h3⟩
     ·exact .inl ⟨r',h1,h2,h3⟩
     ·subst h1;exact .inr ⟨bg.mpr ⟨bX.mpr hq,h2⟩,by rw[h3];exact ef⟩
  ·obtain⟨e3,N3,z3,z4,z5,z6,z7,rfl⟩:=q;rw[E8,av,cg] at N3;left;exact h _ _ e3 lo N3
end
def u7(cs:List a8)(r:gB):Bool:=!decide (r.x=r.y)&&(!(iM cs r.w r.x).isEmpty&&!(iM cs r.w r.y).isEmpty)
theorem in_words(h:kb true):mD g (.str w.s) (.tup [.str "coin",.str "lower",.str "upper"]) kb:=by
 refine⟨_,.inr ⟨_,[.str "coin",.str "lower",.str "upper"],.str w.s,rfl,rfl,rfl,by decide +kernel,by cases w<;>decide +kernel,rfl⟩,?_⟩;have:([PyData.str "coin",PyData.str "lower",PyData.str "upper"].any λq=>PyData.eqv q (.str w.s))=true:=by
  cases w<;>decide +kernel
 rw[this];exact h
theorem ne_nil(ha:g[a]?=some (.lst (a6 l)))(hb:g[b]?=some (.lst []))(h:Q (.bl (!l.isEmpty)) g):cF (.cmp .NotEq) [.ref a,.ref b] g Q:=by
 refine AG (GF (ms:=l.map λ(i:Nat)=>(i:Int)) (ns:=[]) (by rw[<- JC];exact a4 ha) (a4 hb) ?_);have:decide ((l.map λ(i:Nat)=>(i:Int))=[])=l.isEmpty:=by cases l<;>simp
 rw[this];exact h
structure Bd(g:G)(b:Nat)(cs:List a8)(v:Int)(rs:List gB):Prop where
 ex:∃w l d nb,g[b]?=some (.ins "Bounds" [("size",.int cs.length),("full",.int ((2 ^ cs.length-1:Nat):Int)),("room",.int v),("worn_by_place",.ref w),("later_by_place",.ref l),("lower_dies",.ref d),("needed_by_place",.ref nb)]) /\
  g[w]?=some (.lst (qw cs mw))/\g[l]?=some (.lst (qw cs ka))/\g[d]?=some (.lst (Z3 cs))/\mj g nb 0 cs.length (λ_=>rs.length) (rO cs rs)
theorem Bd.at{g g':G}{b:Nat}{cs:List a8}{v:Int}{rs:List gB}(h:Bd g b cs v rs)(e:Ex g g'):Bd g' b cs v rs:=by
 obtain⟨w,l,d,nb,h1,h2,h3,h4,h5⟩:=h.ex;exact⟨⟨w,l,d,nb,e.at h1,e.at h2,e.at h3,e.at h4,h5.at e⟩⟩
theorem YI(l:List α)(z:α)(q:α->Bool):((List.range l.length).filter λi=>q (l.getD i z)).length=(l.filter q).length:=by
 have e:l=(List.range l.length).map λi=>l.getD i z:=by
  refine jK λi=>?_;rw[ah];by_cases hi:i<l.length
  ·rw[dN hi,ak hi];simp[List.getD,hi]
  ·rw[ba (),ba (by simpa using hi)]
   rfl
 conv=>rhs;rw[e,lA,av]
 rfl
theorem Jr{q:Nat->Bool}{s:Nat}{S:Nat->Bool}(h:∀i,i<n->s.testBit i=S i):((Builtin.bitAnd ((gU n q:Nat):Int) (s:Nat)) != 0)=(List.range n).any λi=>S i&&q i:=by
 rw[AQ,Nat.and_comm,wV,bh,bO,bO];constructor
 ·rintro⟨i,h1,h2⟩;exact⟨i,h1,by rw[<- h i (bX.mp h1)];exact h2⟩
 ·rintro⟨i,h1,h2⟩;exact⟨i,h1,by rw[h i (bX.mp h1)];exact h2⟩
theorem RX{s:Nat}(h:s<2 ^ n)(hi:i<n):(2 ^ n-1-s).testBit i=!s.testBit i:=by
 grind
theorem xr(s p i:Nat):(s |||2 ^ p).testBit i=(s.testBit i||decide (i=p)):=by
 rw[Nat.testBit_or,Nat.testBit_two_pow]
 congr 1
 exact gD.mpr eq_comm
theorem xg{s:Nat}(h:s<2 ^ n)(hp:p<n):s |||2 ^ p<2 ^ n:=Nat.or_lt_two_pow h (Nat.pow_lt_pow_right () hp)
section
variable{T:Nat->Option aK}{d:Nat}
theorem ZV(hT:TB0 T){r:gB}(ha:g[a]?=some (.lst (cs.map a8.d)))(hz:cs.length<=1000)(h:∀g',Ex g g'->Q (.bl (u7 cs r)) g'):b0 T (k+4) 88 [.ref a,r.d] g Q E:=by
 refine call_of hT.Ni rfl ?_;dsimp[Bw,b5,List.replicate];left;refine G9 (l:=[.str r.w.s,.int r.x,.int r.y]) rfl ?_;left;refine P5 (in_words ?_);left;refine if2 (λh1=>?_) (λh1=>?_)
 ·have:u7 cs r=false:=by unfold u7;rw[aH h1];rfl
  rw[<- this];exact h _ (Ex.refl _)
 ·left;refine Q1 (k:=k) hT.nf hT.jU hT.oy ha hz λg1 b1 e1 _ tZ=>?_;left;refine ne_nil ((Ex.snoc _ _).at tZ) a9 ?_;left;cases h2:(iM cs r.w r.x).isEmpty with
  |true =>
   refine eO rfl ?_;have:u7 cs r=false:=by unfold u7;rw[aM h1,h2];rfl
   rw[<- this];exact h _ (e1.trans (Ex.snoc _ _))
  |false =>
   refine fF rfl ?_;left;refine Q1 (k:=k) hT.nf hT.jU hT.oy ((e1.trans (Ex.snoc _ _)).at ha) hz λg2 b2 e2 _ tY=>?_;left;refine ne_nil ((Ex.snoc _ _).at tY) a9 ?_;have:u7 cs r=!(iM cs r.w r.y).isEmpty:=by unfold u7;rw[aM h1,h2];rfl
   rw[<- this];exact h _ ((e1.trans (Ex.snoc _ _)).trans (e2.trans (Ex.snoc _ _)))
theorem Yf(hT:TB0 T)(ha:g[a]?=some (.lst (cs.map a8.d)))(hz:cs.length<=1000)(hc:g[c]?=some (.lst (E8 rs)))(hr:rs.length<=900)(h:rs.all (u7 cs)=true->∀g',Ex g g'->Q .bc g')(hn:rs.all (u7 cs)=false->∀g',Ex g g'->False):b0 T (k+5) 89 [.ref a,.ref c] g Q E:=by
 refine call_of hT.Nh rfl ?_;dsimp[Y7,b5,List.replicate];left;refine K3 (a5 T _) (yG ?_);left;refine⟨c,_,rfl,a4 hc,lg (E8 rs),λi Z g'=>Ex g g'/\(∃z2 z3,Z=[some (.ref a),some (.ref c),z2,z3])/\(rs.take i).all (u7 cs)=true,λi Z g' q=>wM (a4 (q.1.at hc)),⟨Ex.refl _,⟨none,none,rfl⟩,rfl⟩,λi x Z g' hx q=>?_,λZ g' q=>?_⟩
 ·obtain⟨e1,⟨z2,z3,rfl⟩,q⟩:=q;obtain⟨dd,hd,rfl⟩:=wX hx;rw[E8,ah,aa] at hd;obtain⟨r,mF,rfl⟩:=hd;have tk:rs.take (i+1)=rs.take i++[r]:=by rw[bt,mF];rfl
  refine G9 rfl ?_
  try show wpS _ _ _ _ _ _
  left;refine ZV (k:=k) hT (e1.at ha) hz λg2 e2=>?_;left;cases hg:u7 cs r with
  |true =>
   left;exact⟨e1.trans e2,⟨_,_,rfl⟩,by rw[tk,List.all_append,q];simp[hg]⟩
  |false =>
   left;refine hn ?_ _ (e1.trans e2);rw[List.all_eq_false];exact⟨r,aO mF,by rw[hg];decide⟩
 ·obtain⟨e1,⟨z2,z3,rfl⟩,q⟩:=q;rw[O5,E8,av,cg] at q;exact h q _ e1
theorem Ye(hT:TB0 T)(uc:T 42=some E9)(zD:T 98=some P1)(ha:g[a]?=some (.lst (cs.map a8.d)))(hz:cs.length<=1000)(hc:g[c]?=some (.lst (E8 rs)))(hr:rs.length<=900)(hm:9<cs.length->E ⟨"TooMany"⟩ g)(hb:cs.length<=9->cs.all i0=false->E ⟨"BadCoin"⟩ g)(hv:cs.length<=9->cs.all i0=true->¬(1<=v/\v<=9)->E ⟨"BadAnvils"⟩ g)(hw:cs.length<=9->cs.all i0=true->1<=v/\v<=9->rs.all (u7 cs)=false->∀g',Ex g g'->False)(h:cs.length<=9->cs.all i0=true->1<=v/\v<=9->rs.all (u7 cs)=true->∀g',Ex g g'->Q .bc g'):b0 T (k+7) 98 [.ref a,.int v,.ref c] g Q E:=by
 refine call_of zD rfl ?_;dsimp[P1,b5,List.replicate];left;refine Ib (k:=k) hT.nf hT.h2 hT.nK hT.oz ha hz hm hb λh9 hg=>?_;left;refine Yk (k:=k+3) hT.nf uc (λv1 v2=>?_) (hv h9 hg);left;exact Yf (k:=k+1) hT ha hz hc hr (h h9 hg ⟨v1,v2⟩) (hw h9 hg ⟨v1,v2⟩)
theorem Jg{f:Str}{x:D}(fs:List (Str×D)):(i6 f x fs).length<=fs.length+1:=by
 induction fs with
 |nil=>simp[i6]
 |cons y r ih =>
  unfold i6;split<;>simp
  exact ih
theorem vf{f:Str}{x:D}{fs:List (Str×D)}(h:fs.length+1<n):(i6 f x fs).length<n:=fO (Jg fs) h
theorem vg{f:Str}{x:D}{fs:List (Str×D)}(h:fs.length+(m+1)<n):(i6 f x fs).length+m<n:=by
 have:=Jg (f:=f) (x:=x) fs;omega
def f3(n:Nat)(v:Int):List (Str×D):=[("size",.int n),("full",.int ((2 ^ n-1:Nat):Int)),("room",.int v)]
theorem rV(n:Nat)(v:Int):(f3 n v).length=3:=rfl
theorem Ya(hT:TB0 T)(ha:g[a]?=some (.lst (cs.map a8.d)))(hz:cs.length<=9)(hg:cs.all i0=true)(hB:∀c∈cs,CB c)(hc:g[c]?=some (.lst (E8 rs)))(hr:rs.length<=900)(hb:g[b]?=some (.ins "Bounds" []))(h:∀g',g.length<=g'.length->(∀i,i<g.length->i≠b->g'[i]?=g[i]?)->Bd g' b cs v rs->Q .bc g'):b0 T (k+9) 113 [.ref b,.ref a,.int v,.ref c] g Q E:=by
 refine call_of hT.zW rfl ?_;dsimp[Z0,b5,List.replicate];have sW:b≠a:=λz=>by subst z;rw[ha] at hb;cases hb
 have vW:b≠c:=λz=>by subst z;rw[hc] at hb;cases hb
 left;refine K4 hb (by simp) (by simp) ?_;left;have wu:=a7 (o':=O.ins "Bounds" (i6 "size" (.int (cs.map a8.d).length) [])) ha sW;refine uH (a4 wu) ?_;refine BV ⟨by omega,by simp;omega,by decide⟩ ?_;left;refine K4 (get_set hb) (by simp) (by first|(simp;done)|(refine vf ?_;repeat (first|(rw[rV];omega)|(simp;done)|refine vg ?_))) ?_;rw[gP];left;refine K4 (get_set hb) (by simp) (by first|(simp;done)|(refine vf ?_;repeat (first|(rw[rV];omega)|(simp;done)|refine vg ?_))) ?_;rw[gP];have e0:i6 "room" (.int v) (i6 "full" (.int (1*2 ^ Int.toNat ((cs.map a8.d).length:Int)-1)) (i6 "size" (.int (cs.map a8.d).length) []))=(f3 cs.length v):=by
  have:(1*2 ^ Int.toNat ((cs.map a8.d).length:Int)-1:Int)=((2 ^ cs.length-1:Nat):Int):=by
   have:=fN (n:=cs.length);rw[Int.natCast_sub this];simp
  rw[this,av]
  rfl
 simp only[e0];have kp:∀(g1:G) (o:O),Ex (g.set b o) g1->(∀i,i<g.length->i≠b->g1[i]?=g[i]?)/\g.length<=g1.length:=λg1 o e=>⟨λi hi hn=>by rw[e.old i (by simpa using hi),aB (bf hn)],by have:=e.len;simpa using this⟩
 generalize ho:O.ins "Bounds" (f3 cs.length v)=o1;have tZ:=get_set (o':=o1) hb;have wu:=a7 (o':=o1) ha sW;have zh:=a7 (o':=o1) hc vW;have k1:=kp _ o1 (Ex.refl _);generalize g.set b o1=g1 at *;subst ho;left;refine Rn (k:=k+4) hT wu hz hB λg2 w e2 hw1 hw=>?_;left;refine K4 (e2.at tZ) (by simp) (by rw[rV];omega) ?_;have lw:w≠b:=λz=>by have:=j2 tZ;omega
 have zo:=get_set (o':=O.ins "Bounds" (i6 "worn_by_place" (.ref w) (f3 cs.length v))) (e2.at tZ);have LV:=a7 (o':=O.ins "Bounds" (i6 "worn_by_place" (.ref w) (f3 cs.length v))) hw lw.symm;have Es:=a7 (o':=O.ins "Bounds" (i6 "worn_by_place" (.ref w) (f3 cs.length v))) (e2.at wu) sW;have ML:=a7 (o':=O.ins "Bounds" (i6 "worn_by_place" (.ref w) (f3 cs.length v))) (e2.at zh) vW;have k3:(∀i,i<g.length->i≠b->(g2.set b (O.ins "Bounds" (i6 "worn_by_place" (.ref w) (f3 cs.length v))))[i]?=g[i]?)/\g.length<=(g2.set b (O.ins "Bounds" (i6 "worn_by_place" (.ref w) (f3 cs.length v)))).length:=⟨λi hi hn=>by rw[aB (bf hn),e2.old i ()];exact k1.1 i hi hn,by simp;have:=e2.len;omega⟩
 generalize g2.set b (O.ins "Bounds" (i6 "worn_by_place" (.ref w) (f3 cs.length v)))=g3 at *;left;refine a31 (k:=k+4) hT Es hz λg4 l e4 Ec hl=>?_;left;refine K4 (e4.at zo) (by simp) (by first|(simp;done)|(refine vf ?_;repeat (first|(rw[rV];omega)|(simp;done)|refine vg ?_))) ?_;have ll:l≠b:=λz=>by have:=j2 zo;omega
 generalize ho:O.ins "Bounds" (i6 "later_by_place" (.ref l) (i6 "worn_by_place" (.ref w) (f3 cs.length v)))=o5;have zm:=get_set (o':=o5) (e4.at zo);have LU:=a7 (o':=o5) (e4.at LV) lw.symm;have Mu:=a7 (o':=o5) hl ll.symm;have Er:=a7 (o':=o5) (e4.at Es) sW;have MK:=a7 (o':=o5) (e4.at ML) vW;have k5:(∀i,i<g.length->i≠b->(g4.set b o5)[i]?=g[i]?)/\g.length<=(g4.set b o5).length:=⟨λi hi hn=>by rw[aB (bf hn),e4.old i ()];exact k3.1 i hi hn,by simp;have:=e4.len;omega⟩
 generalize g4.set b o5=g5 at *;subst ho;left;refine aB2 (k:=k) hT Er hz hg λg6 dd e6 En hd=>?_;left;refine K4 (e6.at zm) (by simp) (by first|(simp;done)|(refine vf ?_;repeat (first|(rw[rV];omega)|(simp;done)|refine vg ?_))) ?_;have ld:dd≠b:=λz=>by have:=j2 zm;omega
 generalize ho:O.ins "Bounds" (i6 "lower_dies" (.ref dd) (i6 "later_by_place" (.ref l) (i6 "worn_by_place" (.ref w) (f3 cs.length v))))=o7;have zk:=get_set (o':=o7) (e6.at zm);have LR:=a7 (o':=o7) (e6.at LU) lw.symm;have Mt:=a7 (o':=o7) (e6.at Mu) ll.symm;have MG:=a7 (o':=o7) hd ld.symm;have MR:=a7 (o':=o7) (e6.at Er) sW;have MJ:=a7 (o':=o7) (e6.at MK) vW;have k7:(∀i,i<g.length->i≠b->(g6.set b o7)[i]?=g[i]?)/\g.length<=(g6.set b o7).length:=⟨λi hi hn=>by rw[aB (bf hn),e6.old i ()];exact k5.1 i hi hn,by simp;have:=e6.len;omega⟩
 generalize g6.set b o7=g7 at *;subst ho;left;refine a23 (k:=k+4) hT MR hz MJ hr λg8 nb e8 hn1 hn=>?_;left;refine K4 (e8.at zk) (by simp) (by first|(simp;done)|(refine vf ?_;repeat (first|(rw[rV];omega)|(simp;done)|refine vg ?_))) ?_;have lb7:=j2 zk;have ln:nb≠b:=λz=>by omega
 generalize ho:O.ins "Bounds" (i6 "needed_by_place" (.ref nb) (i6 "lower_dies" (.ref dd) (i6 "later_by_place" (.ref l) (i6 "worn_by_place" (.ref w) (f3 cs.length v)))))=o9;refine h _ (by simp;have:=e8.len;omega) (λi hi hn=>by rw[aB (bf hn),e8.old i ()];exact k7.1 i hi hn) ⟨⟨w,l,dd,nb,?_,a7 (e8.at LR) lw.symm,a7 (e8.at Mt) ll.symm,a7 (e8.at MG) ld.symm,?_⟩⟩
 ·rw[get_set (e8.at zk),<- ho]
  rfl
 ·obtain⟨as,q1,q2,q3,q4,q5⟩:=hn.ex;exact⟨⟨as,a7 q1 ln.symm,q2,q3,λx hx=>⟨by omega,(q4 x hx).2⟩,λi x hx=>let ⟨ms,m1,m2⟩:=q5 i x hx;⟨ms,a7 m1 (λz=>by have:=(q4 x (aO hx)).1;omega),m2⟩⟩⟩
end
section
variable{T:Nat->Option aK}{d:Nat}
theorem ZO(hT:TB T)(ha:g[a]?=some (.lst (cs.map a8.d)))(hz:cs.length<=1000)(hB:∀c∈cs,CB c)(hc:g[c]?=some (.lst (E8 rs)))(hr:rs.length<=900)(hm:9<cs.length->E ⟨"TooMany"⟩ g)(hb:cs.length<=9->cs.all i0=false->E ⟨"BadCoin"⟩ g)(hv:cs.length<=9->cs.all i0=true->¬(1<=v/\v<=9)->E ⟨"BadAnvils"⟩ g)(hw:cs.length<=9->cs.all i0=true->1<=v/\v<=9->rs.all (u7 cs)=false->∀g',Ex g g'->False)(h:cs.length<=9->cs.all i0=true->1<=v/\v<=9->rs.all (u7 cs)=true->∀g' b,Ex g g'->g.length<=b->Bd g' b cs v rs->Q (.ref b) g'):b0 T (k+10) 99 [.ref a,.int v,.ref c] g Q E:=by
 refine call_of hT.MZ rfl ?_;dsimp[Bu,b5,List.replicate];left;refine Ye (k:=k+2) hT.toTB0 hT.uc hT.zD ha hz hc hr hm hb hv hw λh9 hg hv hR g1 e1=>?_;left;have x1:=Ex.snoc g1 (O.ins "Bounds" []);refine Ya (k:=k) hT (x1.at (e1.at ha)) h9 hg hB (x1.at (e1.at hc)) hr a9 λg2 l2 o2 B2=>?_;refine⟨rfl,h h9 hg hv hR g2 _ ⟨by have:=e1.len;simp at l2;omega,λi hi=>?_⟩ e1.len B2⟩;have:=e1.len;rw[o2 i (by simp;omega) (),x1.old i ()];exact e1.old i hi
theorem Zp(hT:TB T)(ha:g[a]?=some (.lst (cs.map a8.d)))(hz:cs.length<=9)(hg:cs.all i0=true)(hB:∀c∈cs,CB c)(hv:1<=v/\v<=9)(hc:g[c]?=some (.lst (E8 rs)))(hr:rs.length<=900)(hR:rs.all (u7 cs)=true)(h:∀g' b,Ex g g'->g.length<=b->Bd g' b cs v rs->Q (.ref b) g'):b0 T (k+10) 99 [.ref a,.int v,.ref c] g Q E :=
 ZO hT ha () hB hc hr (λz=>by omega) (λ_ z=>by rw[hg] at z;cases z) (λ_ _ z=>absurd hv z) (λ_ _ _ z=>by rw[hR] at z;cases z) λ_ _ _ _=>h
theorem Yg(hT:TB0 T)(B:Bd g b cs v rs)(hz:cs.length<=9){s:Nat}(hs:s<2 ^ cs.length)(hp:p<cs.length)(h:∀g',Ex g g'->Q (.int (CV cs s.testBit p:Nat)) g'):b0 T (k+2) 100 [.ref b,.int (s:Nat),.int (p:Nat)] g Q E:=by
 refine call_of hT.zY rfl ?_;dsimp[BJ,b5,List.replicate];obtain⟨w,l,dd,nb,h1,h2,h3,h4,h5⟩:=B.ex;left;refine L3 (k:=k) hT.qU () ?_;left;refine n9 h1 rfl ?_;left;have e1:((2 ^ cs.length-1:Nat):Int)-(s:Nat)=((2 ^ cs.length-1-s:Nat):Int):=by omega
 rw[e1];have tK:(j5 (cs.map a8.lo)).length<=9:=aA (V5 _) (by simpa using hz);have MD:(Z3 cs).length=(j5 (cs.map a8.lo)).length:=by simp[Z3]
 refine F9 (a5 T _) (λZ=>∃z2 z3,Z=[some (.int ((2 ^ cs.length-1-s:Nat):Int)),some (.int ((s |||2 ^ p:Nat):Int)),z2,z3]) (λi=>vn cs s.testBit p ((j5 (cs.map a8.lo)).getD i 0)) (λi=>(Z3 cs).getD i .bc) (l:=Z3 cs) (k:=.lst dd) (λg' e=>l6 (a4 (e.at h4))) () ⟨none,none,rfl⟩ (λi x Z g' hx e sh=>?_) (λg' e=>?_) (rj (a5 T _) (a4 h4) λQ q=>?_)
 ·obtain⟨z2,z3,rfl⟩:=sh;have DU:=hx;rw[Z3,ah,aa] at DU;obtain⟨oI,hd,rfl⟩:=DU;have eg:(j5 (cs.map a8.lo)).getD i 0=oI:=by simp[List.getD,hd]
  refine j3 ?_;left;refine uC ?_;left;have b1:=Jr (n:=cs.length) (q:=meant cs .lower oI) (s:=s |||2 ^ p) (S:=λi=>s.testBit i||decide (i=p)) (λi _=>xr s p i);have b2:=Jr (n:=cs.length) (q:=meant cs .lower oI) (s:=2 ^ cs.length-1-s) (S:=λi=>!s.testBit i) (λi hi=>RX hs hi);rw[b1,eg];have hu:vn cs s.testBit p oI=(((List.range cs.length).any λi=>(s.testBit i||decide (i=p))&&meant cs .lower oI i)&&(List.range cs.length).any λi=>!s.testBit i&&meant cs .lower oI i):=rfl;rw[hu];cases (List.range cs.length).any λi=>(s.testBit i||decide (i=p))&&meant cs .lower oI i with
  |false =>
   refine eO rfl ?_;exact⟨rfl,e,eO rfl ⟨_,_,rfl⟩⟩
  |true =>
   refine fF rfl ?_;left;refine uC ?_;left;rw[b2,oX];refine⟨rfl,e,?_⟩;cases (List.range cs.length).any λi=>!s.testBit i&&meant cs .lower oI i with
   |false=>exact eO rfl ⟨_,_,rfl⟩
   |true =>
    refine fF rfl ?_;left;refine⟨?_,e,_,_,rfl⟩;simp[List.getD,hx]
 ·refine uH (a4 a9) ?_;have:(((List.range (Z3 cs).length).filter λi=>vn cs s.testBit p ((j5 (cs.map a8.lo)).getD i 0)).map λi=>(Z3 cs).getD i .bc).length=CV cs s.testBit p:=by
   rw[av,MD,YI (j5 (cs.map a8.lo)) 0 (vn cs s.testBit p)]
   rfl
  rw[this];exact h _ (e.trans (Ex.snoc _ _))
 ·left;exact n9 h1 rfl q
theorem Ij{q:a8->a8->Bool}(hp:p<cs.length):iH (qw cs q) (p:Int)=some (.int ((gU cs.length λj=>q (fL cs j) (fL cs p):Nat):Int)):=O8 (by rw[qw,ah,dN hp];rfl)
theorem Js{s:Nat}{q:Nat->Bool}:((Builtin.bitAnd (s:Nat) ((gU n q:Nat):Int)) != 0)=(List.range n).any λi=>s.testBit i&&q i:=by rw[AQ,wV]
theorem aA7(hT:TB0 T)(B:Bd g b cs v rs)(hz:cs.length<=9)(hr:rs.length<=900){s:Nat}(hs:s<2 ^ cs.length)(hp:p<cs.length)(h:∀g',Ex g g'->Q (wA (fault cs v rs s.testBit p)) g'):b0 T (k+3) 101 [.ref b,.int (s:Nat),.int (p:Nat)] g Q E:=by
 refine call_of hT.zX rfl ?_;dsimp[BK,b5,List.replicate];obtain⟨w,l,dd,nb,h1,h2,h3,h4,h5⟩:=B.ex;left;refine n9 h1 rfl ?_;left;refine O2 (a4 h2) (Ij hp) ?_;refine uC ?_;left;rw[Js];cases c1:(List.range cs.length).any λi=>s.testBit i&&mw (fL cs i) (fL cs p) with
 |true =>
  refine fF rfl ?_;have:fault cs v rs s.testBit p="wear":=by unfold fault rR;rw[aN c1]
  rw[this] at h;exact h _ (Ex.refl _)
 |false =>
 refine eO rfl ?_;left;refine n9 h1 rfl ?_;left;refine O2 (a4 h3) (Ij hp) ?_;refine uC ?_;left;rw[Js];cases c2:(List.range cs.length).any λi=>s.testBit i&&ka (fL cs i) (fL cs p) with
 |true =>
  refine fF rfl ?_;have:fault cs v rs s.testBit p="year":=by unfold fault rR uG;rw[aG (by rw[c1];decide),aN c2]
  rw[this] at h;exact h _ (Ex.refl _)
 |false =>
 refine eO rfl ?_;left;refine Yg (k:=k) hT B hz hs hp λg2 e2=>?_;left;refine n9 (e2.at h1) rfl ?_;left;refine if2 (λc3=>?_) (λc3=>?_)
 ·have:fault cs v rs s.testBit p="anvil":=by unfold fault rR uG;rw[aG (by rw[c1];decide),aG (by rw[c2];decide),aN c3]
  rw[this] at h;exact h _ e2
 left;obtain⟨as,q1,q2,q3,q4,q5⟩:=h5.ex;have wg:p<as.length:=by omega
 have zp:=ak wg;generalize as[p]=ap at zp;obtain⟨ms,m1,m2,m3⟩:=q5 p ap zp;refine comp_map (a5 T _) (λZ=>∃z1 z2,Z=[some (.int (s:Nat)),z1,z2]) (λi=>.int ((s &&& ms.getD i 0:Nat):Int)) (l:=a6 ms) (k:=.lst ap) (λg' e=>l6 (a4 ((e2.trans e).at m1))) (by simp[a6];omega) ⟨none,none,rfl⟩ (λi x Z g' hx e sh=>?_) (λg' e=>?_) (rj (a5 T _) (a4 (e2.at m1)) λQ q=>?_)
 ·obtain⟨z1,z2,rfl⟩:=sh;rw[a6,ah,aa] at hx;obtain⟨m,hm,rfl⟩:=hx;refine j3 ?_;left;refine uC ?_;refine⟨?_,e,_,_,rfl⟩;rw[AQ];simp[List.getD,hm]
 ·refine UG (ns:=(List.range (a6 ms).length).map λi=>((s &&& ms.getD i 0:Nat):Int)) (a4 (by rw[eJ];exact a9)) ?_;have en:(((List.range (a6 ms).length).map λi=>((s &&& ms.getD i 0:Nat):Int)).all λn=>n != 0)=xN cs rs s.testBit p:=by
   rw[bh,bP];unfold xN;rw[bP];constructor
   ·intro hA r hr;cases yY:meant cs r.w r.y p with
    |false=>rfl
    |true =>
     have hm:=(m3 (gU cs.length (meant cs r.w r.x))).mpr ⟨r,hr,yY,rfl⟩;obtain⟨i,hi⟩:=eU.mp hm;have Ef:=(ao.mp hi).1;have:=hA ((s &&& gU cs.length (meant cs r.w r.x):Nat):Int) (aE.mpr ⟨i,bX.mpr (by simpa[a6] using Ef),by simp[List.getD,hi]⟩);rw[wV] at this;exact this
   ·intro hA x hx;obtain⟨i,hi,rfl⟩:=aE.mp hx;have hi:i<ms.length:=by simpa[a6] using hi
    have hm:ms.getD i 0∈ms:=by simp[List.getD,hi]
    obtain⟨r,hr,yY,em⟩:=(m3 _).mp hm;have:=hA r hr;rw[yY,Bool.not_true,Bool.false_or] at this;rw[em,wV];exact this
  rw[en];left;cases c4:xN cs rs s.testBit p with
  |true =>
   have:fault cs v rs s.testBit p="":=by unfold fault rR uG;rw[aG (by rw[c1];decide),aG (by rw[c2];decide),aG c3,aN c4]
   rw[this] at h;exact h _ (e2.trans (e.trans (Ex.snoc _ _)))
  |false =>
   have:fault cs v rs s.testBit p="rule":=by unfold fault rR uG;rw[aG (by rw[c1];decide),aG (by rw[c2];decide),aG c3,aG (by rw[c4];decide)]
   rw[this] at h;exact h _ (e2.trans (e.trans (Ex.snoc _ _)))
 ·left;refine n9 (e2.at h1) rfl ?_;left;exact O2 (a4 (e2.at q1)) (O8 (by rw[ah,zp];rfl)) q
end
def xl:aK:=⟨3,3,(.seq (.ret (.dC (bR (.cmp .NotEq) (.call 91 (dw aF aR)) aF) (bR (.cmp .Is) (.call 101 (dH aw aF aR)) (.lit .bc)))) .pass)⟩
def Hm:aK:=⟨2,2,(.seq (.ret (.comp [0,1] 4 (.one 3) (.fk (cu (.fld "size") aw)) (.dQ (.call 115 (dH aw aF bj))) bj)) .pass)⟩
def nQ(cs:List a8)(v:Int)(rs:List gB)(s p:Nat):Bool:=!s.testBit p&&decide (fault cs v rs s.testBit p="")
def nR(cs:List a8)(v:Int)(rs:List gB)(s:Nat):List Nat:=(List.range cs.length).filter (nQ cs v rs s)
theorem RS(x:Str):T1 (wA x)=decide (x=""):=by
 unfold wA;by_cases h:x=""
 ·rw[aN h,aH h];rfl
 ·rw[aG h,aM h];rfl
theorem VJ{s:Nat}:decide (((s |||2 ^ p:Nat):Int)=(s:Nat))=s.testBit p:=by
 rw[bh,eG];constructor
 ·intro h;have h:s |||2 ^ p=s:=by omega
  have:=xr s p p;rw[h] at this;rw[this];simp
 ·intro h;have:s |||2 ^ p=s:=Nat.eq_of_testBit_eq λi=>by
   rw[xr];by_cases hi:i=p
   ·subst hi;rw[h];rfl
   ·rw[aM hi,Bool.or_false]
  rw[this]
structure TF(T:Nat->Option aK):Prop where
 pS:T 115=some xl
 zV:T 116=some Hm
section
variable{T:Nat->Option aK}{d:Nat}
theorem YJ(hT:TB0 T)(pS:T 115=some xl)(B:Bd g b cs v rs)(hz:cs.length<=9)(hr:rs.length<=900){s:Nat}(hs:s<2 ^ cs.length)(hp:p<cs.length)(h:∀g',Ex g g'->Q (.bl (nQ cs v rs s p)) g'):b0 T (k+4) 115 [.ref b,.int (s:Nat),.int (p:Nat)] g Q E:=by
 refine call_of pS rfl ?_;dsimp[xl,b5,List.replicate];left;refine L3 (k:=k+2) hT.qU () ?_;left;rw[VJ];cases hb:s.testBit p with
 |true =>
  refine eO rfl ?_;have:nQ cs v rs s p=false:=by unfold nQ;rw[hb];rfl
  rw[this] at h;exact h _ (Ex.refl _)
 |false =>
  refine fF rfl ?_;left;refine aA7 (k:=k) hT B hz hr hs hp λg1 e1=>?_;left;have:nQ cs v rs s p=T1 (wA (fault cs v rs s.testBit p)):=by unfold nQ;rw[hb,RS];rfl
  rw[this] at h;exact h _ e1
theorem HU(hT:TB0 T)(hF:TF T)(B:Bd g b cs v rs)(hz:cs.length<=9)(hr:rs.length<=900){s:Nat}(hs:s<2 ^ cs.length)(h:∀g' l,Ex g g'->g.length<=l->g'[l]?=some (.lst (a6 (nR cs v rs s)))->Q (.ref l) g'):b0 T (k+5) 116 [.ref b,.int (s:Nat)] g Q E:=by
 refine call_of hF.zV rfl ?_;obtain⟨w,l,dd,nb,h1,h2,h3,h4,h5⟩:=B.ex;refine F9 (a5 T _) (λZ=>∃z2 z3,Z=[some (.ref b),some (.int (s:Nat)),z2,z3]) (nQ cs v rs s) (λi=>.int (i:Nat)) (l:=z9 0 cs.length) (λg' e=>J9) (by rw[H9];omega) ⟨none,none,rfl⟩ (λi d Z g' hx e sh=>?_) (λg' e=>?_) (Gs (a5 T _) (by omega:cs.length<=1000) λQ q=>?_)
 ·obtain⟨z2,z3,rfl⟩:=sh;obtain⟨hi,rfl⟩:=N1 hx;rw[gQ];refine j3 ?_;left;refine YJ (k:=k) hT hF.pS (B.at e) hz hr hs hi λg2 e2=>?_;left;refine⟨rfl,e.trans e2,?_⟩;cases nQ cs v rs s i with
  |true =>
   refine fF rfl ?_;left;exact⟨rfl,e.trans e2,_,_,rfl⟩
  |false=>exact eO rfl ⟨_,_,rfl⟩
 ·rw[H9];exact h _ _ (e.trans (Ex.snoc _ _)) e.len a9
 ·left;exact n9 h1 rfl q
end
def FG(n:Nat)(F:Nat->List Nat):Prop:=∀s p,p∈F s->p<n/\s.testBit p=false
def S1(n:Nat)(F:Nat->List Nat):Nat->Nat->List (List Nat)
 |0,s=>if s=2 ^ n-1 then[[]] else[]
 |f+1,s=>if s=2 ^ n-1 then[[]] else(F s).flatMap λp=>(S1 n F f (s |||2 ^ p)).map (p::·)
def A2(n:Nat)(F:Nat->List Nat)(s:Nat):List (List Nat):=S1 n F (2 ^ n) s
theorem Ck{s:Nat}(h:s.testBit p=false):s<s |||2 ^ p:=by
 have h1:s<=s |||2 ^ p:=Nat.left_le_or
 have h2:s |||2 ^ p≠s:=λe=>by
  have:=xr s p p;rw[e,h] at this;simp at this
 omega
theorem Ic{β:Type}{l:List α}{f g:α->List β}(h:∀x∈l,f x=g x):l.flatMap f=l.flatMap g:=by
 induction l with
 |nil=>rfl
 |cons a r ih=>rw[List.flatMap_cons,List.flatMap_cons,h a (by simp),ih λx hx=>h x (by simp[hx])]
theorem Hu{n:Nat}{F:Nat->List Nat}(hF:FG n F):∀(f s:Nat),s<2 ^ n->2 ^ n-1-s<=f->S1 n F f s=S1 n F (f+1) s
 |0,s,hs,hf=>by
  have e:s=2 ^ n-1:=by omega
  simp only[S1];rw[aN e,aN e]
 |f+1,s,hs,hf=>by
  rw[S1,S1];by_cases e:s=2 ^ n-1
  ·rw[aN e,aN e]
  ·rw[aG e,aG e];refine Ic λp hp=>?_;have:=hF s p hp;rw[Hu hF f (s |||2 ^ p) (xg hs this.1) (by have:=Ck this.2;omega)]
theorem a17{F:Nat->List Nat}{s:Nat}(h:s=2 ^ n-1):A2 n F s=[[]]:=by
 unfold A2;obtain⟨m,hm⟩:∃m,2 ^ n=m+1:=⟨2 ^ n-1,by have:=fN (n:=n);omega⟩
 rw[hm,S1,aN h]
theorem Qe{F:Nat->List Nat}(hF:FG n F){s:Nat}(hs:s<2 ^ n)(h:s≠2 ^ n-1):A2 n F s=(F s).flatMap λp=>(A2 n F (s |||2 ^ p)).map (p::·):=by
 unfold A2;obtain⟨m,hm⟩:∃m,2 ^ n=m+1:=⟨2 ^ n-1,by have:=fN (n:=n);omega⟩
 conv=>lhs;rw[hm,S1,aG h]
 refine Ic λp hp=>?_;have:=hF s p hp;rw[hm,<- Hu hF m (s |||2 ^ p) (xg hs this.1) ()]
theorem Rk{F:Nat->List Nat}(hF:FG n F){s:Nat}(hs:s<2 ^ n)(h:s≠2 ^ n-1):(A2 n F s).length=((F s).map λp=>(A2 n F (s |||2 ^ p)).length).sum:=by
 rw[Qe hF hs h,List.length_flatMap];simp[Function.comp_def]
inductive jX(F:Nat->List Nat):Nat->Prop
 |zero:jX F 0
 |step {s p:Nat} (h:jX F s) (hp:p∈F s):jX F (s |||2 ^ p)
theorem jX.lt{F:Nat->List Nat}(hF:FG n F){s:Nat}(h:jX F s):s<2 ^ n:=by
 induction h with
 |zero=>exact Nat.two_pow_pos _
 |step h hp ih=>exact xg ih (hF _ _ hp).1
theorem II(cs:List a8)(v:Int)(rs:List gB):FG cs.length (nR cs v rs):=λs p hp=>by
 obtain⟨h1,h2⟩:=bg.mp hp;unfold nQ at h2;rw[aT,Bool.not_eq_true'] at h2;exact⟨bX.mp h1,h2.1⟩
noncomputable abbrev kN(j:Nat):Key:=.inl (j:Int)
theorem SG{c:Key}{x:D}:m5 (putD kvs c x) c=some x:=by
 unfold m5 putD;by_cases h:(kvs.any λkv=>decide (kv.1=c))=true
 ·rw[aN h]
  induction kvs with
  |nil=>cases h
  |cons kv r ih =>
   rw[bY,cS];by_cases hk:kv.1=c
   ·rw[aN hk];simp[hk]
   ·rw[aG hk];simp only[hk,decide_false];refine ih ?_;rw[gk,et] at h;exact h.resolve_left (by simp[hk])
 ·rw[aG h,List.find?_append];have:kvs.find? (λkv=>decide (kv.1=c))=none:=by
   rw[KI];exact λkv hk hc=>h (bO.mpr ⟨kv,hk,hc⟩)
  rw[this];simp
theorem a01{c c':Key}{x:D}(hn:c≠c'):m5 (putD kvs c x) c'=m5 kvs c':=by
 unfold m5 putD;by_cases h:(kvs.any λkv=>decide (kv.1=c))=true
 ·rw[aN h];clear h
  induction kvs with
  |nil=>rfl
  |cons kv r ih =>
   rw[bY,cS,cS];by_cases hk:kv.1=c
   ·rw[aN hk];have:kv.1≠c':=λz=>hn (hk.symm.trans z);simp only[this,decide_false];exact ih
   ·rw[aG hk];by_cases oq:kv.1=c'
    ·simp only[oq,decide_true]
    ·simp only[oq,decide_false];exact ih
 ·rw[aG h,List.find?_append];have:[(c,x)].find? (λkv=>decide (kv.1=c'))=none:=by simp[hn]
  rw[this];simp
theorem SH{c:Key}{x:D}:(putD kvs c x).length<=kvs.length+1:=by
 unfold putD;split<;>simp
theorem Vr{i:Nat}(h:i≠j):kN i≠kN j:=λz=>h (by have:(i:Int)=j:=df z;omega)
def N4:aK:=⟨1,5,(.seq (.set 1 (.prim (.jn 0) .nil)) (.seq (.set 2 (.prim .lst .nil)) (.seq (.eF (.one 3) (.fk (bR (.bin .Add) (cu (.fld "full") aw) (aV 1))) (.seq (.ifs (cI .In bj aF) (.seq (.expr (.dI .append aR (cB bj))) (.seq (.eF (.one 4) (.eN (.call 116 (dw aw bj))) (.seq (.expr (.dI .jo aF (cB (.call 91 (dw bj cW))))) .pass)) .pass)) .pass) .pass)) (.seq (.ret aR) .pass))))⟩
def AY:aK:=⟨1,3,(.seq (.set 1 (.prim .R7 .nil)) (.seq (.eF (.one 2) (.mB (.call 117 (cB aw))) (.seq (.ifs (cI .Eq aR (cu (.fld "full") aw)) (.seq (.cN aF aR (aV 1)) .pass) (.seq (.cN aF aR (cu .sum (.comp [2,1] 4 (.one 3) (.eN (.call 116 (dw aw aR))) .no (bu aF (.call 91 (dw aw bj)))))) .pass)) .pass)) (.seq (.ret aF) .pass)))⟩
def PK:aK:=⟨4,7,(.seq (.set 4 (.call 116 (dw aw aR))) (.seq (.set 5 bj) (.seq (.set 6 (aV 0)) (.seq (.iU (cI .GtE ff (bu aF (.call 91 (dw aR (bu cW fE))))) (.seq (.jw 5 .nv (bu aF (.call 91 (dw aR (bu cW fE))))) (.seq (.jw 6 .iadd (aV 1)) .pass))) (.seq (.ret (bR .tup (bu cW fE) ff)) .pass)))))⟩
def Yi:aK:=⟨3,7,(.seq (.set 3 (.prim .lst .nil)) (.seq (.set 4 (aV 0)) (.seq (.set 5 aR) (.seq (.iU (cI .NotEq cW (cu (.fld "full") aw)) (.seq (.mr (.many [6,5]) (.call 122 (qt aw aF cW ff))) (.seq (.expr (.dI .append bj (cB fE))) (.seq (.set 4 (.call 91 (dw cW fE))) .pass)))) (.seq (.ret bj) .pass)))))⟩
def ZA:aK:=⟨1,2,(.seq (.set 1 (.call 121 (cB aw))) (.seq (.ifs (cI .Eq (bu aF (aV 0)) (aV 0)) (.seq (.ret (.lit .bc)) .pass) .pass) (.seq (.ret (.call 123 (dH aw aF (aV 0)))) .pass)))⟩
def ZC:aK:=⟨3,3,(.seq (.ret (.call 124 (cB (.call 99 (dH aw aF aR))))) .pass)⟩
def U2:aK:=⟨3,3,(.seq (.ret (bu (.call 121 (cB (.call 99 (dH aw aF aR)))) (aV 0))) .pass)⟩
theorem IT:∀{l m:List Nat},l.Nodup->(∀x∈l,x∈m)->l.length<=m.length
 |[],m,_,_=>cc _
 |x::r,m,nd,h=>by
  rw[ei] at nd;have:=IT (l:=r) (m:=m.erase x) nd.2 λy hy=>(List.mem_erase_of_ne λz=>nd.1 (by simp_all)).mpr (h y (by simp[hy]))
  grind
section
variable{Z:S}
inductive vA(P:eB)(t:MT)(elt:ME)(Q:KD)(Z:S)(k:IK)(g1:G):Prop
 |mk (l:List D) (Sh:S->Prop) (w:Nat->D) (hk:∀g',Ex g1 g'->k.Is l g') (hl:l.length<=1000) (h0:Sh Z)
   (hs:∀i d Z g',l[i]?=some d->Ex g1 g'->Sh Z->jh t d Z λcb=>aS P elt cb g' (λy g4=>y=w i/\Ex g1 g4/\Sh cb) iJ) (hd:∀g',Ex g1 g'->Q (.ref g'.length) (g'++[.lst ((List.range l.length).map w)])):vA P t elt Q Z k g1
theorem a52(hP:f9 P)(h:gb P it Z g (vA P t elt Q (K5 Z c7 n)) E):aS P (.comp c7 n t it .no elt) Z g Q E:=by
 refine P7 hP (w5 hP it _ _ _ _ _ _ (λk g1 h=>?_) (λ_ _ z=>z) h);obtain⟨l,Sh,w,hk,hl,h0,hs,hd⟩:=h;refine⟨l,λi ys Z g'=>Ex g1 g'/\ys=(List.range i).map w/\Sh Z,hl,λi ys Z g' q=>⟨hk _ q.1,by simp_all⟩,⟨Ex.refl _,rfl,h0⟩,λi x ys Z g' hx q=>?_,λys Z g' q=>?_⟩
 ·obtain⟨e1,rfl,sh⟩:=q;refine u1 (λcb q=>L4 (ji (b8 hP elt _ _ _ _ _ _ (λy g4 q=>?_) (λ_ _ z=>z) q))) (hs i x Z g' hx e1 sh);obtain⟨rfl,e4,sh⟩:=q;exact⟨e4,by rw[hU,bB];rfl,sh⟩
 ·obtain⟨e1,rfl,sh⟩:=q;exact hd g' e1
end
def nO(g:G)(sd n:Nat)(K:List Nat):Prop:=∃S m,g[sd]?=some (.set S m)/\m=K.length/\K.Nodup/\(∀j∈K,j<2 ^ n)/\∀k:Int,S k=true↔∃j∈K,k=(j:Nat)
theorem nO.at{g g':G}{sd n:Nat}{K:List Nat}(h:nO g sd n K)(e:Ex g g'):nO g' sd n K:=let ⟨S,m,h1,h2⟩:=h;⟨S,m,e.at h1,h2⟩
theorem nO.size{sd:Nat}{K:List Nat}(h:nO g sd n K):K.length<=2 ^ n:=by
 obtain⟨S,m,_,_,nd,lt,_⟩:=h;have:=IT (m:=List.range (2 ^ n)) nd λx hx=>bX.mpr (lt x hx)
 simp_all
structure TW(T:Nat->Option aK):Prop where
 pR:T 117=some N4
 zU:T 121=some AY
structure Wy(g:G)(w:Nat)(cs:List a8)(v:Int)(rs:List gB):Prop where
 ex:∃kvs,g[w]?=some (.bC kvs)/\∀s,jX (nR cs v rs) s->m5 kvs (kN s)=some (.int ((A2 cs.length (nR cs v rs) s).length:Nat))
theorem YW(hl:l.Pairwise (· > ·)){s x:Nat}(hi:l[i]?=some s)(hx:x∈l)(h:s<x):x∈l.take i:=by
 obtain⟨j,hj,rfl⟩:=cU.mp hx;obtain⟨iu,rfl⟩:=ao.mp hi;have Mw:j<i:=by
  rcases eI j i with z|z|z
  ·exact z
  ·subst z;omega
  ·have:=cQ.mp hl i j iu hj z;omega
 exact eU.mpr ⟨j,by rw[gj Mw,ak hj]⟩
theorem Gy(h:n<=9):1<=2 ^ n/\2 ^ n<=512:=⟨fN,xY () h⟩
section
variable{T:Nat->Option aK}{d:Nat}
theorem Za(hT:TB0 T)(hF:TF T)(pR:T 117=some N4)(B:Bd g b cs v rs)(hz:cs.length<=9)(hr:rs.length<=900)(h:∀(L:List Nat) l g',Ex g g'->g.length<=l->g'[l]?=some (.lst (a6 L))->L.Pairwise (· < ·)->(∀s,s∈L↔jX (nR cs v rs) s)->L.length<=512->Q (.ref l) g'):b0 T (k+6) 117 [.ref b] g Q E:=by
 refine call_of pR rfl ?_;have pN:=II cs v rs;generalize qT:nR cs v rs=F at *;obtain⟨w0,l0,dd,nb,f1,f2,f3,f4,f5⟩:=B.ex;have p2:=Gy hz;refine Qg ?_;have s1:nO (g++[O.set (λk=>decide (k=0)) 1]) g.length cs.length [0]:=⟨_,_,a9,rfl,by simp,by simp;omega,λk=>by simp⟩
 have e1:=Ex.snoc g (O.set (λk=>decide (k=0)) 1);generalize g++[O.set (λk=>decide (k=0)) 1]=g1 at *;left;have e2:=e1.trans (Ex.snoc g1 (O.lst []));have s2:=s1.at (Ex.snoc g1 (O.lst []));have t2:=a9 (g:=g1) (o:=O.lst []);have l1:g.length<g1.length:=by obtain⟨_,_,z,_⟩:=s1;exact j2 z
 generalize g1.length=tl at *;refine K3 (a5 T _) (vj (a5 T _) ?_);left;refine n9 (e2.at f1) rfl ?_;left;have en:((2 ^ cs.length-1:Nat):Int)+1=((2 ^ cs.length:Nat):Int):=by omega
 rw[en];refine⟨by omega,by omega,z9 0 (2 ^ cs.length),λt Z g'=>Ex g g'/\(∃K,nO g' g.length cs.length K/\∀j,j∈K↔j=0\/∃s p,s<t/\jX F s/\p∈F s/\j=s |||2 ^ p)/\(∃L,g'[tl]?=some (.lst (a6 L))/\L.Pairwise (· < ·)/\(∀s,s∈L↔s<t/\jX F s)/\L.length<=t)/\∃z3 z4,Z=[some (.ref b),some (.ref g.length),some (.ref tl),z3,z4],λ_ _ _ _=>by exact J9,⟨e2,⟨[0],s2,λj=>by simp⟩,⟨[],t2,by simp,by simp,by simp⟩,none,none,rfl⟩,λt x Z g' hx q=>?_,λZ g' q=>?_⟩
 ·obtain⟨e3,⟨K,s3,hK⟩,⟨L,t3,pw,hL,zy⟩,z3,z4,rfl⟩:=q;obtain⟨ht,rfl⟩:=N1 hx;rw[gQ];have lP:t∈K↔jX F t:=by
   rw[hK];constructor
   ·rintro(rfl|⟨s,p,_,h2,h3,rfl⟩)
    ·exact .zero
    ·exact .step h2 h3
   ·intro h;cases h with
    |zero=>exact .inl rfl
    |step h hp=>exact .inr ⟨_,_,Ck (pN _ _ hp).2,h,hp,rfl⟩
  refine j3 ?_;left;obtain⟨S,m,sg,sm,snd,slt,sS⟩:=id s3;refine UM sg ?_;left;have Eu:S (t:Nat)=true↔jX F t:=by
   rw[sS,<- lP];exact⟨λ⟨j,hj,e⟩=>by rw[show t=j by omega];exact hj,λz=>⟨t,z,rfl⟩⟩
  cases hb:S (t:Nat) with
  |false =>
   have mH:¬jX F t:=λz=>by rw[Eu.mpr z] at hb;cases hb
   refine eO rfl ?_;refine⟨e3,⟨K,s3,λj=>(hK j).trans ⟨?_,?_⟩⟩,⟨L,t3,pw,λs=>(hL s).trans ⟨λz=>⟨by omega,z.2⟩,λz=>⟨?_,z.2⟩⟩,by omega⟩,_,_,rfl⟩
   ·rintro(z|⟨s,p,h1,h2⟩)
    ·exact .inl z
    ·exact .inr ⟨s,p,by omega,h2⟩
   ·rintro(z|⟨s,p,h1,h2,h3⟩)
    ·exact .inl z
    ·refine .inr ⟨s,p,?_,h2,h3⟩;rcases gO s t with y|y
     ·exact y
     ·exact absurd (show jX F t by rw[show t=s by omega];exact h2) mH
   ·rcases gO s t with y|y
    ·exact y
    ·exact absurd (show jX F t by rw[show t=s by omega];exact z.2) mH
  |true =>
   have hR:=Eu.mp hb;refine fF rfl ?_;left;refine Cg t3 (by simp[a6];omega) ?_;have Lb:tl≠g.length:=by omega
   have s4:nO (g'.set tl (.lst (a6 L++[D.int (t:Nat)]))) g.length cs.length K:=⟨S,m,a7 sg Lb,sm,snd,slt,sS⟩
   have t4:(g'.set tl (.lst (a6 L++[D.int (t:Nat)])))[tl]?=some (.lst (a6 (L++[t]))):=by rw[get_set t3];simp[a6]
   have e4:Ex g (g'.set tl (.lst (a6 L++[D.int (t:Nat)]))):=⟨by simp;exact e3.len,λi hi=>by rw[aB ()];exact e3.old i hi⟩
   generalize g'.set tl (.lst (a6 L++[D.int (t:Nat)]))=g4 at *;left;refine K3 (a5 T _) (jC (a5 T _) ?_);left;refine HU (k:=k) hT hF (B.at e4) hz hr ht λg5 fl e5 Mz h5=>?_;rw[qT] at h5;have l4:tl<g4.length:=j2 t4;refine⟨fl,_,rfl,a4 h5,a6 (F t),λj Z g'=>Ex g g'/\g'[fl]?=some (.lst (a6 (F t)))/\g'[tl]?=some (.lst (a6 (L++[t])))/\(∃K',nO g' g.length cs.length K'/\∀x,x∈K'↔x∈K\/∃p∈(F t).take j,x=t |||2 ^ p)/\∃z4,Z=[some (.ref b),some (.ref g.length),some (.ref tl),some (.int (t:Nat)),z4],λj Z g' q=>l6 (a4 q.2.1),⟨e4.trans e5,h5,e5.at t4,⟨K,s4.at e5,λx=>by simp⟩,z4,rfl⟩,λj x Z g' hx q=>?_,λZ g' q=>?_⟩
   ·obtain⟨e6,h6,t6,⟨K',s6,qS⟩,z4,rfl⟩:=q;rw[a6,ah,aa] at hx;obtain⟨p,hp,rfl⟩:=hx;have wj:=aO hp;have yR:=(pN _ _ wj)
    have tk:(F t).take (j+1)=(F t).take j++[p]:=by rw[bt,hp];rfl
    obtain⟨S6,m6,vS,DB,sG,sH,qx⟩:=id s6;refine j3 ?_;left;refine⟨PQ vS,?_⟩;left;refine L3 (k:=k+4) hT.qU () ?_;have hsz:=s6.size;refine Xh vS () ?_;have dq:=xg ht yR.1;refine⟨⟨by simp;exact e6.len,λi hi=>by rw[aB ()];exact e6.old i hi⟩,a7 h6 (),a7 t6 (),?_,_,rfl⟩;by_cases lQ:S6 ((t |||2 ^ p:Nat):Int)=true
    ·refine⟨K',⟨_,_,get_set vS,by rw[aN lQ];exact DB,sG,sH,λk=>?_⟩,λx=>?_⟩
     ·rw[et,eG];constructor
      ·rintro(z|z)
       ·exact(qx k).mp z
       ·subst z;exact(qx _).mp lQ
      ·exact λz=>.inl ((qx k).mpr z)
     ·rw[qS x,tk];simp only[List.mem_append,List.mem_singleton];constructor
      ·rintro(z|⟨q,z1,z2⟩)
       ·exact .inl z
       ·exact .inr ⟨q,.inl z1,z2⟩
      ·rintro(z|⟨q,z1|z1,z2⟩)
       ·exact .inl z
       ·exact .inr ⟨q,z1,z2⟩
       ·subst z1 z2;obtain⟨y,y1,y2⟩:=(qx _).mp lQ;rw[<- qS,show(t |||2 ^ q)=y by omega];exact y1
    ·have yW:(t |||2 ^ p)∉K':=λz=>lQ ((qx _).mpr ⟨_,z,rfl⟩);refine⟨K'++[t |||2 ^ p],⟨_,_,get_set vS,by rw[aG lQ];simp[DB],?_,λy hy=>?_,λk=>?_⟩,λx=>?_⟩
     ·rw[dz];exact⟨sG,by simp,λx hx y hy=>by cases bx.mp hy;exact λz=>yW (z▸hx)⟩
     ·rcases bA.mp hy with z|z
      ·exact sH y z
      ·cases bx.mp z;exact dq
     ·rw[et,eG,qx];simp only[List.mem_append,List.mem_singleton];constructor
      ·rintro(⟨y,y1,y2⟩|z)
       ·exact⟨y,.inl y1,y2⟩
       ·exact⟨_,.inr rfl,z⟩
      ·rintro⟨y,y1|y1,y2⟩
       ·exact .inl ⟨y,y1,y2⟩
       ·subst y1;exact .inr y2
     ·rw[bA,bx,qS x,tk];simp only[List.mem_append,List.mem_singleton];constructor
      ·rintro((z|⟨q,z1,z2⟩)|z)
       ·exact .inl z
       ·exact .inr ⟨q,.inl z1,z2⟩
       ·exact .inr ⟨p,.inr rfl,z⟩
      ·rintro(z|⟨q,z1|z1,z2⟩)
       ·exact .inl (.inl z)
       ·exact .inl (.inr ⟨q,z1,z2⟩)
       ·subst z1;exact .inr z2
   ·obtain⟨e6,h6,t6,⟨K',s6,qS⟩,z4,rfl⟩:=q;rw[a6,av,cg] at qS;refine⟨e6,⟨K',s6,λj=>(qS j).trans ?_⟩,⟨L++[t],t6,?_,λs=>?_,by simp;omega⟩,_,_,rfl⟩
    ·rw[hK j];constructor
     ·rintro((z|⟨s,p,h1,h2⟩)|⟨p,h1,h2⟩)
      ·exact .inl z
      ·exact .inr ⟨s,p,by omega,h2⟩
      ·exact .inr ⟨t,p,by omega,hR,h1,h2⟩
     ·rintro(z|⟨s,p,h1,h2,h3,h4⟩)
      ·exact .inl (.inl z)
      ·rcases gO s t with y|y
       ·exact .inl (.inr ⟨s,p,y,h2,h3,h4⟩)
       ·have:s=t:=by omega
        subst this;exact .inr ⟨p,h3,h4⟩
    ·rw[fe];exact⟨pw,by simp,λx hx y hy=>by cases bx.mp hy;exact((hL x).mp hx).1⟩
    ·rw[bA,bx,hL s];constructor
     ·rintro(z|z)
      ·exact⟨by omega,z.2⟩
      ·subst z;exact⟨by omega,hR⟩
     ·rintro⟨z1,z2⟩;rcases gO s t with y|y
      ·exact .inl ⟨y,z2⟩
      ·exact .inr ()
 ·obtain⟨e3,⟨K,s3,hK⟩,⟨L,t3,pw,hL,zy⟩,z3,z4,rfl⟩:=q;rw[H9] at hL zy;left;exact h L tl g' e3 () t3 pw (λs=>(hL s).trans ⟨λz=>z.2,λz=>⟨z.lt pN,z⟩⟩) ()
theorem Rm(hT:TB0 T)(hF:TF T)(hW:TW T)(B:Bd g b cs v rs)(hz:cs.length<=9)(hr:rs.length<=900)(h:∀w g',Ex g g'->g.length<=w->Wy g' w cs v rs->Q (.ref w) g'):b0 T (k+7) 121 [.ref b] g Q E:=by
 refine call_of hW.zU rfl ?_;dsimp[AY,b5,List.replicate];have pN:=II cs v rs;generalize qT:nR cs v rs=F at *;obtain⟨w0,l0,dd,nb,f1,f2,f3,f4,f5⟩:=B.ex;have p2:=Gy hz;left;have e1:=Ex.snoc g (O.bC []);have w1:=a9 (g:=g) (o:=O.bC []);generalize g++[O.bC []]=g1 at *;refine K3 (a5 T _) (LF ?_);left;refine Za (k:=k) hT hF hW.pR (B.at e1) hz hr λL l g2 e2 hl h2 pw hL zy=>?_;rw[qT] at hL;have lw:=j2 w1;have Ln:L.reverse.Pairwise (· > ·):=List.pairwise_reverse.mpr pw;have yD:(a6 L).length=L.length:=by simp[a6]
 refine⟨l,_,rfl,a4 h2,(a6 L).reverse,λi Z g'=>Ex g g'/\g'[l]?=some (.lst (a6 L))/\(∃kvs,g'[g.length]?=some (.bC kvs)/\kvs.length<=i/\∀s∈L.reverse.take i,m5 kvs (kN s)=some (.int ((A2 cs.length F s).length:Nat)))/\∃z2,Z=[some (.ref b),some (.ref g.length),z2],λi Z g' q=>WU (a4 q.2.1),⟨e1.trans e2,h2,⟨[],e2.at w1,by simp,by simp⟩,none,rfl⟩,λi x Z g' hx q=>?_,λZ g' q=>?_⟩
 ·obtain⟨e3,h3,⟨kvs,w3,hk,tN⟩,z2,rfl⟩:=q;rw[a6,<- List.map_reverse,ah,aa] at hx;obtain⟨s,hs,rfl⟩:=hx;have Ef:i<L.length:=by have:=(ao.mp hs).1;simpa using this
  have DX:jX F s:=(hL s).mp (kq.mp (aO hs));have ke:=DX.lt pN;have tk:L.reverse.take (i+1)=L.reverse.take i++[s]:=by rw[bt,hs];rfl
  have fin:∀(N:Ends) g4 z2,Ex g' g4->(∀g5,(Ex g g5/\g5[l]?=some (.lst (a6 L))/\(∃kvs,g5[g.length]?=some (.bC kvs)/\kvs.length<=i+1/\∀s∈L.reverse.take (i+1),m5 kvs (kN s)=some (.int ((A2 cs.length F s).length:Nat)))/\∃z2,([some (.ref b),some (.ref g.length),z2]:S)=[some (.ref b),some (.ref g.length),z2])->N.nx [some (.ref b),some (.ref g.length),z2] g5)->Y4 (.ref g.length) (.int (s:Nat)) (.int ((A2 cs.length F s).length:Nat)) g4 λg5=>N.nx [some (.ref b),some (.ref g.length),z2] g5:=λN g4 z2 e4 hN=>by
   refine ql (e4.at w3) rfl () ?_;refine hN _ ⟨⟨by simp;exact(e3.trans e4).len,λj hj=>by rw[aB ()];exact(e3.trans e4).old j hj⟩,a7 (e4.at h3) (),⟨_,get_set (e4.at w3),aA SH (),λs' DY=>?_⟩,z2,rfl⟩;rw[tk] at DY;by_cases yQ:s'=s
   ·subst yQ;exact SG
   ·refine(a01 (Vr (bf yQ))).trans (tN s' ?_);rcases bA.mp DY with z|z
    ·exact z
    ·exact absurd (bx.mp z) yQ
  refine j3 ?_;left;refine n9 (e3.at f1) rfl ?_;left;have ed:decide (((s:Nat):Int)=((2 ^ cs.length-1:Nat):Int))=decide (s=2 ^ cs.length-1):=gD.mpr ();rw[ed];refine if2 (λc1=>?_) (λc1=>?_)
  ·left;have e1:(1:Int)=((A2 cs.length F s).length:Nat):=by rw[a17 c1];rfl
   rw[e1];exact fin _ _ _ (Ex.refl _) λg5 z=>⟨z.1,z.2.1,z.2.2.1,_,rfl⟩
  ·left;refine a52 (a5 T _) (jC (a5 T _) ?_);left;refine HU (k:=k+1) hT hF (B.at e3) hz hr ke λg4 fl e4 Mz h4=>?_;rw[qT] at h4;refine⟨fl,_,rfl,a4 h4,a6 (F s),λZ=>∃z2 z3,Z=[some (.int (s:Nat)),some (.ref g.length),z2,z3],λi=>.int ((A2 cs.length F (s |||2 ^ ((F s).getD i 0))).length:Nat),λg' e=>l6 (a4 (e.at h4)),?_,⟨none,none,rfl⟩,λj d Z g5 hx e5 sh=>?_,λg5 e5=>?_⟩
   ·have:(F s).length<=cs.length:=by rw[<- qT];exact U8
    simp[a6];omega
   ·obtain⟨z2,z3,rfl⟩:=sh;rw[a6,ah,aa] at hx;obtain⟨p,hp,rfl⟩:=hx;have wj:=aO hp;have yR:=pN _ _ wj;refine j3 ?_;left;refine L3 (k:=k+5) hT.qU () ?_;have hv:m5 kvs (kN (s |||2 ^ p))=some (.int ((A2 cs.length F (s |||2 ^ p)).length:Nat)):=by
     refine tN _ (YW Ln hs (kq.mpr ((hL _).mpr (.step DX wj))) (Ck yR.2))
    refine j0 ((e4.trans e5).at w3) rfl hv ?_;exact⟨by simp[List.getD,hp],e5,_,_,rfl⟩
   ·have el:(List.range (a6 (F s)).length).map (λi=>D.int ((A2 cs.length F (s |||2 ^ ((F s).getD i 0))).length:Nat))=(((F s).map λp=>(A2 cs.length F (s |||2 ^ p)).length).map λ(n:Nat)=>(n:Int)).map D.int:=by
     refine jK λi=>?_;rw[ah,ah,ah,ah];by_cases hi:i<(F s).length
     ·rw[dN (by simpa[a6] using hi),ak hi];simp[List.getD,hi]
     ·rw[ba (by simpa[a6] using hi),ba ()]
      rfl
    rw[el];refine FV (a4 a9) ?_;have es:(((F s).map λp=>(A2 cs.length F (s |||2 ^ p)).length).map λ(n:Nat)=>(n:Int)).sum=((A2 cs.length F s).length:Nat):=by
     rw[Rk pN ke c1];generalize (F s).map (λp=>(A2 cs.length F (s |||2 ^ p)).length)=m
     induction m with
     |nil=>rfl
     |cons x r ih=>simp[ih]
    rw[es];left;exact fin _ _ _ (e4.trans (e5.trans (Ex.snoc _ _))) λg6 z=>⟨z.1,z.2.1,z.2.2.1,_,rfl⟩
 ·obtain⟨e3,h3,⟨kvs,w3,hk,tN⟩,z2,rfl⟩:=q;rw[List.length_reverse,yD,sv (by simp)] at tN;left;refine h _ _ e3 (au _) ⟨⟨kvs,w3,λs hs=>?_⟩⟩;rw[qT] at hs ⊢;exact tN s (kq.mpr ((hL s).mpr hs))
end
section
variable{T:Nat->Option aK}{d:Nat}{w:Nat}
theorem HI(hT:TB T)(hF:TF T)(hW:TW T)(kJ:T 126=some U2)(ha:g[a]?=some (.lst (cs.map a8.d)))(hz:cs.length<=9)(hg:cs.all i0=true)(hB:∀c∈cs,CB c)(hv:1<=v/\v<=9)(hc:g[c]?=some (.lst (E8 rs)))(hr:rs.length<=900)(hR:rs.all (u7 cs)=true)(h:∀g',Ex g g'->Q (.int ((A2 cs.length (nR cs v rs) 0).length:Nat)) g'):b0 T (k+11) 126 [.ref a,.int v,.ref c] g Q E:=by
 refine call_of kJ rfl ?_;dsimp[U2,b5,List.replicate];left;refine Zp (k:=k) hT ha hz hg hB hv hc hr hR λg1 b e1 _ B=>?_;left;refine Rm (k:=k+3) hT hF hW B hz hr λw g2 e2 _ W=>?_;left;obtain⟨kvs,w1,w2⟩:=W.ex;exact j0 w1 rfl (w2 0 .zero) (h _ (e1.trans e2))
end
def Ho:aK:=⟨3,3,(.seq (.ret (bR (.bin .Add) (bR (.bin .Add) (bR (.nk false true) aw aF) (cu .tup aR)) (bR (.nk true false) aw (bR (.bin .Add) aF (aV 1))))) .pass)⟩
def GR:aK:=⟨3,3,(.seq (.ifs (.cO (.dQ (.call 74 (dH aw aF aR)))) (.seq (.raise "NoDie" (cB (bU "no coin is of that die"))) .pass) .pass) .pass)⟩
def Hn:aK:=⟨1,2,(.seq (.set 1 (aV 1)) (.seq (.iU (cI .In aF aw) (.seq (.jw 1 .iadd (aV 1)) .pass)) (.seq (.ret aF) .pass)))⟩
def U4:aK:=⟨1,1,(.seq (.fC "held" ["Cabinet"] aw (.prim .R7 .nil)) (.seq (.fC "claims" ["Cabinet"] aw (.prim .R7 .nil)) (.seq (.fC "last_coin" ["Cabinet"] aw (aV 0)) (.seq (.fC "last_fact" ["Cabinet"] aw (aV 0)) .pass))))⟩
def x6:aK:=⟨2,2,(.seq (.ifs (.gX (.cO (.dQ (.call 38 (cB aF)))) (cI .NotIn aF (cu (.fld "held") aw))) (.seq (.raise "NoCoin" (cB (bU "no coin has that number"))) .pass) .pass) .pass)⟩
def J5:aK:=⟨3,3,(.seq (.expr (.bo "check_number" [("Cabinet",209)] aw (cB aF))) (.seq (.expr (.bo "check_number" [("Cabinet",209)] aw (cB aR))) (.seq (.ifs (cI .Eq aF aR) (.seq (.raise "SameOne" (cB (bU "two unlike coins are asked for"))) .pass) .pass) .pass)))⟩
def R8:aK:=⟨3,4,(.seq (.set 3 (.call 19 (cB aF))) (.seq (.ret (.comp [2,3,0] 5 (.one 4) (.eN (.bo "numbers" [("Cabinet",221)] aw .nil)) (cI .Eq (bu (bu (cu (.fld "held") aR) cW) aF) aw) cW)) .pass))⟩
def X0:aK:=⟨4,6,(.seq (.set 4 (.call 19 (cB aF))) (.seq (.eF (.one 5) (.eN aR) (.seq (.cN (cu (.fld "held") aw) ff (.call 177 (dH (bu (cu (.fld "held") aw) ff) cW bj))) .pass)) .pass))⟩
def J8:aK:=⟨2,2,(.seq (.expr (.call 39 (cB aF))) (.seq (.ifs (cI .Eq (cu .len (cu (.fld "held") aw)) (aV 9)) (.seq (.raise "Full" (cB (bU "there is no room for one more coin"))) .pass) .pass) (.seq (.jx "last_coin" ["Cabinet"] aw (aV 1)) (.seq (.cN (cu (.fld "held") aw) (cu (.fld "last_coin") aw) aF) (.seq (.ret (cu (.fld "last_coin") aw)) .pass)))))⟩
def Ia:aK:=⟨3,4,(.seq (.set 3 (.bo "coin" [("Cabinet",222)] aw (cB aF))) (.seq (.expr (.call 39 (cB aR))) (.seq (.cN (cu (.fld "held") aw) aF aR) (.seq (.ret bj) .pass))))⟩
def U3:aK:=⟨3,3,(.seq (.expr (.bo "check_pair" [("Cabinet",210)] aw (dw aF aR))) (.seq (.jx "last_fact" ["Cabinet"] aw (aV 1)) (.seq (.cN (cu (.fld "claims") aw) (cu (.fld "last_fact") aw) (bR .tup aF aR)) (.seq (.ret (cu (.fld "last_fact") aw)) .pass))))⟩
def Ie:aK:=⟨4,5,(.seq (.expr (.call 40 (cB aF))) (.seq (.expr (.call 75 (dH (.bo "coins" [("Cabinet",223)] aw .nil) aF aR))) (.seq (.expr (.call 75 (dH (.bo "coins" [("Cabinet",223)] aw .nil) aF bj))) (.seq (.ifs (cI .Eq aR bj) (.seq (.raise "SameOne" (cB (bU "two unlike dies are asked for"))) .pass) .pass) (.seq (.set 4 (.bo "numbers_of" [("Cabinet",211)] aw (dw aF bj))) (.seq (.expr (.bo "give_die" [("Cabinet",212)] aw (dH aF cW aR))) (.seq (.ret cW) .pass)))))))⟩
def V9:aK:=⟨4,7,(.seq (.expr (.call 40 (cB aF))) (.seq (.expr (.call 75 (dH (.bo "coins" [("Cabinet",223)] aw .nil) aF aR))) (.seq (.set 4 (.bo "numbers_of" [("Cabinet",211)] aw (dw aF aR))) (.seq (.eF (.one 5) (.eN bj) (.seq (.ifs (.gX (.cO (.dQ (.call 38 (cB ff)))) (cI .NotIn ff cW)) (.seq (.raise "NoCoin" (cB (bU "no coin of that die has that number"))) .pass) .pass) .pass)) (.seq (.ifs (.gX (cI .NotEq (cu .Z1 bj) (cu .len bj)) (cI .In (cu .len bj) (bR .tup (aV 0) (cu .len cW)))) (.seq (.raise "BadList" (cB (bU "some coins of the die are asked for, each once, not all of them"))) .pass) .pass) (.seq (.set 6 (.call 194 (cB (.call 20 (dw (.bo "coins" [("Cabinet",223)] aw .nil) aF))))) (.seq (.expr (.bo "give_die" [("Cabinet",212)] aw (dH aF bj fE))) (.seq (.ret fE) .pass))))))))⟩
def L9:aK:=⟨1,1,(.seq (.ret (cu .dR (cu (.fld "held") aw))) .pass)⟩
def U5:aK:=⟨2,2,(.seq (.expr (.bo "check_number" [("Cabinet",209)] aw (cB aF))) (.seq (.ret (bu (cu (.fld "held") aw) aF)) .pass))⟩
def R6:aK:=⟨1,1,(.seq (.ret (.comp [0] 3 (.one 2) (.eN (.bo "numbers" [("Cabinet",221)] aw .nil)) .no (bu (cu (.fld "held") aw) aR))) .pass)⟩
def R0:aK:=⟨1,1,(.seq (.ret (.comp [0] 3 (.one 2) (.eN (cu .dR (cu (.fld "claims") aw))) .no (.prim .tup (dH aR (bu (bu (cu (.fld "claims") aw) aR) (aV 0)) (bu (bu (cu (.fld "claims") aw) aR) (aV 1)))))) .pass)⟩
noncomputable abbrev Hs:=List (Nat×a8)
noncomputable abbrev Fs:=List (Nat×Int×Int)
noncomputable abbrev kC(j:Nat):Key:=.inl (j:Int)
def gy(hs:Hs):List (Key×D):=hs.map λp=>(kC p.1,p.2.d)
def gf(fs:Fs):List (Key×D):=fs.map λp=>(kC p.1,.tup [.int p.2.1,.int p.2.2])
def nums{α:Type}(hs:List (Nat×α)):List Nat:=hs.map (·.1)
def n5(hs:Hs):List a8:=hs.map (·.2)
def gg(l:List Nat):Prop:=l.Pairwise (· < ·)
theorem w6(hs:List (Nat×α)):(nums hs).length=hs.length:=by simp[nums]
theorem RL(hs:Hs):(gy hs).map (·.1)=((nums hs).map λn:Nat=>(n:Int)).map Sum.inl:=by simp[gy,nums,kC]
theorem RG(fs:Fs):(gf fs).map (·.1)=((nums fs).map λn:Nat=>(n:Int)).map Sum.inl:=by simp[gf,nums,kC]
theorem o6{α:Type}{f:α->D}:∀{hs:List (Nat×α)} {n:Nat} {c:α},gg (nums hs)->(n,c)∈hs->m5 (hs.map λp=>(kC p.1,f p.2)) (kC n)=some (f c)
 |[],_,_,_,h=>by cases h
 |(m,e)::r,n,c,inc,h=>by
  have tu:=cK.mp inc;unfold m5;rw[bY,cS];by_cases hm:m=n
  ·subst hm;have:c=e:=by
    rcases aC.mp h with z|z
    ·exact(xX z).2
    ·have:=tu.1 m (aE.mpr ⟨_,z,rfl⟩);exact absurd this (bD m)
   subst this;simp
  ·have h':(n,c)∈r:=(aC.mp h).resolve_left λz=>hm (xX z).1.symm;have fK:decide (kC m=kC n)=false:=aM λz=>hm (by have:(m:Int)=n:=df z;omega);simp only[fK];exact o6 tu.2 h'
theorem OR{f:α->D}(hs:List (Nat×α))(v:Int):(m5 (hs.map λp=>(kC p.1,f p.2)) (.inl v)).isSome=(nums hs).any λn=>decide ((n:Int)=v):=by
 unfold m5;rw[fY,bh,List.find?_isSome,bO];constructor
 ·rintro⟨x,hx,e⟩;obtain⟨p,hp,rfl⟩:=aE.mp hx;exact⟨p.1,aE.mpr ⟨p,hp,rfl⟩,aH (df (aQ e))⟩
 ·rintro⟨n,hn,e⟩;obtain⟨p,hp,rfl⟩:=aE.mp hn;exact⟨_,aE.mpr ⟨p,hp,rfl⟩,aH (dX Sum.inl (aQ e))⟩
theorem JK{c:a8}(h:n∉nums hs):putD (gy hs) (kC n) c.d=gy (hs++[(n,c)]):=by
 unfold putD;rw[aG]
 ·simp[gy]
 ·intro z;obtain⟨x,hx,e⟩:=bO.mp z;obtain⟨p,hp,rfl⟩:=aE.mp hx;have:(p.1:Int)=n:=df (aQ e);exact h (aE.mpr ⟨p,hp,by omega⟩)
theorem JB(h:gg l):(l.map λn:Nat=>(n:Int)).Pairwise (·<=·):=dy.mpr (h.imp λz=>by omega)
theorem Kk(h:gg l):(l.map λn:Nat=>(n:Int)).Nodup:=dy.mpr (h.imp λz e=>by omega)
theorem a86(h:gg l):L7 (l.map λn:Nat=>(n:Int))=l.map λn:Nat=>(n:Int):=K9 (BP _) (Hy _) (JB h)
theorem JP(h:gg l):j5 (l.map λn:Nat=>(n:Int))=l.map λn:Nat=>(n:Int):=by
 refine K9 ((S0 _).trans ?_) (BQ _) (JB h);rw[V3 (ks:=[]) (by simpa using Kk h)]
 rfl
theorem O3(l:List Nat):a6 l=(l.map λn:Nat=>(n:Int)).map D.int:=by simp[a6]
noncomputable abbrev fI(hd cl:Nat)(lc lf:Int):O:=.ins "Cabinet" [("held",.ref hd),("claims",.ref cl),("last_coin",.int lc),("last_fact",.int lf)]
structure gZ(g:G)(m hd cl:Nat)(lc lf:Int)(hs:Hs)(fs:Fs):Prop where
 o:g[m]?=some (fI hd cl lc lf)
 h:g[hd]?=some (.bC (gy hs))
 c:g[cl]?=some (.bC (gf fs))
structure nW(hs:Hs):Prop where
 inc:gg (nums hs)
 len:hs.length<=9
 good:∀p∈hs,sk p.2
theorem gZ.at{g g':G}{m hd cl:Nat}{lc lf:Int}{hs:Hs}{fs:Fs}(C:gZ g m hd cl lc lf hs fs)(e:Ex g g'):gZ g' m hd cl lc lf hs fs:=⟨e.at C.o,e.at C.h,e.at C.c⟩
theorem HD(h:nW hs):(n5 hs).all i0=true:=by
 rw[bP];intro c hc;obtain⟨p,hp,rfl⟩:=aE.mp hc;exact(h.good p hp).good
structure TC(T:Nat->Option aK):Prop where
 nf:NF T
 h2:T 2=some I9
 nK:T 12=some v8
 oz:Di T
 jU:xU T
 EE:T 20=some xb
 oy:T 74=some Q3
 h75:T 75=some GR
 Nz:T 177=some Ho
 Ny:T 194=some Hn
 zM:T 208=some U4
 ud:T 209=some x6
 Nt:T 211=some R8
 Nr:T 212=some X0
 pQ:T 214=some J8
 Np:T 219=some Ie
 Nn:T 220=some V9
 zH:T 221=some L9
 zG:T 222=some U5
 zF:T 223=some R6
 zE:T 224=some R0
section
variable{Z:S}{c:ME}
inductive vD(α:Type)(P:eB)(t:MT)(c elt:ME)(Q:KD)(Z:S)(k:IK)(g1:G):Prop
 |mk (l:List α) (fl:α->D) (Sh:S->Prop) (p:α->Bool) (w:α->D) (hk:∀g',Ex g1 g'->k.Is (l.map fl) g') (hl:l.length<=1000) (h0:Sh Z)
   (hs:∀x Z g',x∈l->Ex g1 g'->Sh Z->jh t (fl x) Z λcb=>dF P c cb g' (λb g3=>b=p x/\Ex g1 g3/\if b=true then aS P elt cb g3 (λy g4=>y=w x/\Ex g1 g4/\Sh cb) iJ else Sh cb) iJ) (hd:∀g',Ex g1 g'->Q (.ref g'.length) (g'++[.lst ((l.filter p).map w)])):vD α P t c elt Q Z k g1
theorem V0(hP:f9 P)(h:gb P it Z g (vD α P t c elt Q (K5 Z c7 n)) E):aS P (.comp c7 n t it c elt) Z g Q E:=by
 refine P7 hP (w5 hP it _ _ _ _ _ _ (λk g1 h=>?_) (λ_ _ z=>z) h);obtain⟨l,fl,Sh,p,w,hk,hl,h0,hs,hd⟩:=h;refine⟨l.map fl,λi ys Z g'=>Ex g1 g'/\ys=((l.take i).filter p).map w/\Sh Z,by simpa using hl,λi ys Z g' q=>⟨hk _ q.1,?_⟩,⟨Ex.refl _,by simp,h0⟩,λi x ys Z g' hx q=>?_,λys Z g' q=>?_⟩
 ·obtain⟨_,rfl,_⟩:=q;rw[av];exact aA (dt _ _) (by rw[cy];omega)
 ·obtain⟨e1,rfl,sh⟩:=q;rw[ah,aa] at hx;obtain⟨x,hx,rfl⟩:=hx;refine u1 (λcb q=>m4 hP c _ _ _ _ _ _ (λb g3 q=>?_) (λ_ _ z=>z) q) (hs x Z g' (aO hx) e1 sh);obtain⟨rfl,e3,q⟩:=q;have ef:((l.take (i+1)).filter p).map w=((l.take i).filter p).map w++if p x=true then[w x] else[]:=by
   rw[bt,hx,cz,bB];cases z:p x<;>simp[z]
  cases hp:p x with
  |true =>
   rw[hp] at q ef;refine b8 hP elt _ _ _ _ _ _ (λy g4 q=>?_) (λ_ _ z=>z) q;obtain⟨rfl,e4,sh⟩:=q;exact⟨e4,by rw[ef];rfl,sh⟩
  |false =>
   rw[hp] at q ef;exact⟨e3,by rw[ef];simp,q⟩
 ·obtain⟨e1,rfl,sh⟩:=q;rw[av,cg];exact hd g' e1
end
section
variable{T:Nat->Option aK}{d:Nat}{lc lf:Int}
theorem O4(l:List α):l.filter (λ_=>true)=l:=fu.mpr λ_ _=>rfl
theorem BN(hT:TC T)(C:gZ g m hd cl lc lf hs fs)(inc:gg (nums hs))(hz:hs.length<=50)(h:Q (.ref g.length) (g++[.lst (a6 (nums hs))])):b0 T (k+1) 221 [.ref m] g Q E:=by
 refine call_of hT.zH rfl ?_;dsimp[L9,b5,List.replicate];left;refine n9 C.o rfl ?_;refine IW C.h (RL hs) (by simp[nums];omega) ?_;rw[JP inc,<- O3];exact h
theorem V2(hT:TC T)(C:gZ g m hd cl lc lf hs fs)(inc:gg (nums hs))(hz:hs.length<=50)(h:∀g' r,Ex g g'->g.length<=r->g'[r]?=some (.lst ((n5 hs).map a8.d))->Q (.ref r) g'):b0 T (k+2) 223 [.ref m] g Q E:=by
 refine call_of hT.zF rfl ?_;dsimp[R6,b5,List.replicate];left;refine V0 (α:=Nat×a8) (a5 T _) (jC (a5 T _) ?_);left;refine j6 C.o rfl rfl ?_;left;refine BN (k:=k) hT C inc hz ?_;have e1:=Ex.snoc g (O.lst (a6 (nums hs)));refine⟨_,_,rfl,a4 a9,hs,λp=>.int (p.1:Nat),λZ=>∃z1 z2,Z=[some (.ref m),z1,z2],λ_=>true,λp=>p.2.d,λg' e=>l6 (a4 ?_),by omega,⟨none,none,rfl⟩,λp Z g' hp e sh=>?_,λg' e=>?_⟩
 ·rw[show hs.map (λp=>D.int (p.1:Nat))=a6 (nums hs) by simp[a6,nums]];exact e.at a9
 ·obtain⟨z1,z2,rfl⟩:=sh;refine j3 (L4 ⟨rfl,e,ji ?_⟩);left;have C':=(C.at e1).at e;refine n9 C'.o rfl ?_;left;exact j0 C'.h rfl (o6 (f:=a8.d) inc hp) ⟨rfl,e,_,_,rfl⟩
 ·rw[O4];refine h _ _ ((e1.trans e).trans (Ex.snoc _ _)) (e1.trans e).len ?_;rw[n5,eJ];exact a9
theorem Bf(hT:TC T)(C:gZ g m hd cl lc lf hs fs)(inc:gg (nums fs))(hz:fs.length<=50)(h:∀g' r,Ex g g'->g.length<=r->g'[r]?=some (.lst (fs.map λf=>.tup [.int (f.1:Nat),.int f.2.1,.int f.2.2]))->Q (.ref r) g'):b0 T (k+2) 224 [.ref m] g Q E:=by
 refine call_of hT.zE rfl ?_;dsimp[R0,b5,List.replicate];left;refine V0 (α:=Nat×Int×Int) (a5 T _) (jC (a5 T _) ?_);left;refine n9 C.o rfl ?_;left;refine IW C.c (RG fs) (by simp[nums];omega) ?_;rw[JP inc,<- O3];have e1:=Ex.snoc g (O.lst (a6 (nums fs)));refine⟨_,_,rfl,a4 a9,fs,λp=>.int (p.1:Nat),λZ=>∃z1 z2,Z=[some (.ref m),z1,z2],λ_=>true,λf=>.tup [.int (f.1:Nat),.int f.2.1,.int f.2.2],λg' e=>l6 (a4 ?_),by omega,⟨none,none,rfl⟩,λp Z g' hp e sh=>?_,λg' e=>?_⟩
 ·rw[show fs.map (λp=>D.int (p.1:Nat))=a6 (nums fs) by simp[a6,nums]];exact e.at a9
 ·obtain⟨z1,z2,rfl⟩:=sh;refine j3 (L4 ⟨rfl,e,ji ?_⟩);left;have C':=(C.at e1).at e;have hv:=o6 (f:=λx:Int×Int=>D.tup [.int x.1,.int x.2]) inc hp;refine n9 C'.o rfl ?_;left;refine j0 C'.c rfl hv ?_;left;refine n9 C'.o rfl ?_;left;refine j0 C'.c rfl hv ?_;left;exact⟨rfl,e,_,_,rfl⟩
 ·rw[O4];exact h _ _ ((e1.trans e).trans (Ex.snoc _ _)) (e1.trans e).len a9
theorem Rx(hT:TC T)(C:gZ g m hd cl lc lf hs fs)(inc:gg (nums hs)){x:a8}(hn:(n,x)∈hs)(h:Q x.d g):b0 T (k+3) 222 [.ref m,.int (n:Nat)] g Q E:=by
 refine call_of hT.zG rfl ?_;dsimp[U5,b5,List.replicate];left;refine j6 C.o rfl rfl ?_;left;refine call_of hT.ud rfl ?_;dsimp[x6,b5,List.replicate];left;refine F7 (k:=k) hT.nf ?_;left;refine n9 C.o rfl ?_;left;refine P5 ⟨(m5 (gy hs) (kC n)).isSome,.inl ⟨_,_,kC n,rfl,C.h,rfl,rfl⟩,?_⟩;rw[show m5 (gy hs) (kC n)=some x.d from o6 (f:=a8.d) inc hn];left;refine eO rfl ?_;left;refine n9 C.o rfl ?_;left;exact j0 C.h rfl (o6 (f:=a8.d) inc hn) h
end
section
variable{T:Nat->Option aK}{d:Nat}
theorem RO{i:Int}(ha:D9 g y=some (ms.map .int))(h:kb (decide (i∈ms))):mD g (.int i) y kb:=by
 refine⟨_,.inr ⟨_,ms.map .int,.int i,ha,?_,rfl,?_,rfl,rfl⟩,?_⟩
 ·exact L1 ms
 ·exact lay_ints ms
 ·have:((ms.map PyData.int).any λq=>PyData.eqv q (.int i))=decide (i∈ms):=by
   rw[sy,bh,bO,cJ];constructor
   ·rintro⟨x,hx,e⟩;have:x=i:=by simpa[PyData.eqv] using e
    rw[<- this];exact hx
   ·intro hx;exact⟨i,hx,by simp[PyData.eqv]⟩
  rw[this];exact h
theorem Yb(hT:TC T)(C:gZ g m hd cl lc lf hs fs){c:a8}(hc:i0 c=true)(hz:hs.length<9)(dq:∀n∈nums hs,n<=lc)(n2:m≠hd)(n3:cl≠hd)(n4:cl≠m)(h:∀g',g'.length=g.length->(∀i,i≠hd->i≠m->g'[i]?=g[i]?)->gZ g' m hd cl (lc+1:Nat) lf (hs++[(lc+1,c)]) fs->Q (.int (lc+1:Nat)) g'):b0 T (k+6) 214 [.ref m,c.d] g Q E:=by
 refine call_of hT.pQ rfl ?_;dsimp[J8,b5,List.replicate];left;refine call_of hT.oz.2 rfl ?_;dsimp[L8,b5,List.replicate];left;refine U7 hT.nf hT.h2 hT.nK ?_;rw[hc];left;refine n9 C.o rfl ?_;refine Cb C.h ?_;left;refine if2 (λz=>?_) (λ_=>?_)
 ·rw[gy,av] at z;omega
 refine Ir ?_;left;refine⟨m,_,_,_,rfl,C.o,by simp,rfl,?_⟩;refine Kj ?_;refine⟨_,C.o,by simp,?_⟩;have e3:(O.ins "Cabinet" (i6 "last_coin" (.int ((lc:Nat)+1)) [("held",.ref hd),("claims",.ref cl),("last_coin",.int (lc:Nat)),("last_fact",.int (lf:Nat))]))=fI hd cl (lc+1:Nat) (lf:Nat):=rfl;rw[e3];have qK:=get_set C.o (o':=fI hd cl (lc+1:Nat) (lf:Nat));left;refine n9 qK rfl ?_;left;refine n9 qK rfl ?_;left;have Eg:=a7 C.h n2 (o':=fI hd cl (lc+1:Nat) (lf:Nat));refine ql Eg rfl (by simp[gy];omega) ?_;rw[JK (n:=lc+1) (λz=>by have:=dq _ z;omega)];left;have tI:=a7 qK (bf n2) (o':=O.bC (gy (hs++[(lc+1,c)])));refine n9 tI rfl ?_;left;refine h _ (by simp) (λi h1 h2=>by rw[aB (bf h1),aB (bf h2)]) ⟨tI,get_set Eg,a7 (a7 C.c (bf n4)) (bf n3)⟩
end
def By:aK:=⟨2,2,(.seq (.ifs (.gX (cI .Eq (cu .len aF) (aV 0)) (cI .Eq (.call 4 (dw aw (aV 10))) (aV 4))) (.seq (.ret (.call 36 (dw aw (bR (.bin .Add) (aV 3) (cu .len aF))))) .pass) .pass) (.seq (.ret (bu aF (.call 4 (dw aw (cu .len aF))))) .pass))⟩
def AJ:aK:=⟨0,0,(.seq (.ret (.mR (.cons (bU "coins") (EG (.prim .R7 .nil) (bU "facts") (.prim .R7 .nil) (bU "given") (aV 0) (bU "learnt") (aV 0))))) .pass)⟩
def Bj:aK:=⟨1,1,(.seq (.ret (.comp [0] 3 (.one 2) (.eN (cu .dR (cu .list (bu aw (bU "coins"))))) .no (bu (bu aw (bU "coins")) aR))) .pass)⟩
def Ce:aK:=⟨2,2,(.seq (.ifs (.cO (.dQ (.call 13 (cB aF)))) (.seq (.ret (bR .tup (bU "BadCoin") (.lit .bc))) .pass) .pass) (.seq (.ifs (cI .Gt (cu .len (bu aw (bU "coins"))) (aV 8)) (.seq (.ret (bR .tup (bU "Full") (.lit .bc))) .pass) .pass) (.seq (.cN aw (bU "given") (bR (.bin .Add) (bu aw (bU "given")) (aV 1))) (.seq (.cN (bu aw (bU "coins")) (bu aw (bU "given")) aF) (.seq (.ret (bR .tup (bU "") (bu aw (bU "given")))) .pass)))))⟩
def GU:aK:=⟨3,4,(.seq (.set 3 (cu .list aw)) (.seq (.cN bj (.ite (cI .Eq aF (bU "lower")) (aV 0) (aV 2)) aR) (.seq (.ret (.prim .tup (Dn (bu bj (aV 0)) (bu bj (aV 1)) (bu bj (aV 2)) (bu bj (aV 3)) (bu bj (aV 4))))) .pass)))⟩
def Gv:aK:=⟨3,4,(.seq (.set 3 (.ite (cI .Eq aF (bU "lower")) (aV 0) (aV 2))) (.seq (.ret (.comp [3,0,2] 5 (.one 4) (.eN (cu .dR (cu .list (bu aw (bU "coins"))))) (cI .Eq (bu (bu (bu aF (bU "coins")) cW) aw) aR) cW)) .pass))⟩
def FF:aK:=⟨4,6,(.seq (.ifs (cI .NotIn aF (bR .lst (bU "lower") (bU "upper"))) (.seq (.ret (bR .tup (bU "BadSide") (.lit .bc))) .pass) .pass) (.seq (.set 4 (.call 201 (dH aw aF bj))) (.seq (.ifs (.gX (cI .Eq (cu .len cW) (aV 0)) (cI .Eq (cu .len (.call 201 (dH aw aF aR))) (aV 0))) (.seq (.ret (bR .tup (bU "NoDie") (.lit .bc))) .pass) .pass) (.seq (.ifs (cI .Eq aR bj) (.seq (.ret (bR .tup (bU "SameOne") (.lit .bc))) .pass) .pass) (.seq (.eF (.one 5) (.eN cW) (.seq (.cN (bu aw (bU "coins")) ff (.call 200 (dH (bu (bu aw (bU "coins")) ff) aF aR))) .pass)) (.seq (.ret (bR .tup (bU "") cW)) .pass))))))⟩
def FH:aK:=⟨4,7,(.seq (.ifs (cI .NotIn aF (bR .lst (bU "lower") (bU "upper"))) (.seq (.ret (bR .tup (bU "BadSide") (.lit .bc))) .pass) .pass) (.seq (.set 4 (.call 201 (dH aw aF aR))) (.seq (.ifs (cI .Eq (cu .len cW) (aV 0)) (.seq (.ret (bR .tup (bU "NoDie") (.lit .bc))) .pass) .pass) (.seq (.ifs (.cO (.dQ (cu .all (.comp [4] 3 (.one 2) (.eN bj) .no (bR (.cmp .In) aR aw))))) (.seq (.ret (bR .tup (bU "NoCoin") (.lit .bc))) .pass) .pass) (.seq (.ifs (.gX (cI .Eq (cu .len bj) (aV 0)) (.gX (cI .Lt (cu .Z1 bj) (cu .len bj)) (cI .Eq (cu .len bj) (cu .len cW)))) (.seq (.ret (bR .tup (bU "BadList") (.lit .bc))) .pass) .pass) (.seq (.set 6 (bu (.comp [0,1] 4 (.one 3) (.ja (aV 1) (aV 12)) (cI .Eq (cu .len (.call 201 (dH aw aF bj))) (aV 0)) bj) (aV 0))) (.seq (.eF (.one 5) (.eN bj) (.seq (.cN (bu aw (bU "coins")) ff (.call 200 (dH (bu (bu aw (bU "coins")) ff) aF fE))) .pass)) (.seq (.ret (bR .tup (bU "") fE)) .pass))))))))⟩
def G0(qc qf gv lr:Nat):List (Key×D):=[(.inr "coins",.ref qc),(.inr "facts",.ref qf),(.inr "given",.int (gv:Nat)),(.inr "learnt",.int (lr:Nat))]
theorem Q8:m5 (G0 qc qf gv lr) (.inr "coins")=some (.ref qc):=rfl
theorem Q7:m5 (G0 qc qf gv lr) (.inr "facts")=some (.ref qf):=rfl
theorem CW:m5 (G0 qc qf gv lr) (.inr "given")=some (.int (gv:Nat)):=rfl
structure jz(g:G)(q qc qf gv lr:Nat)(hs:Hs)(fs:Fs):Prop where
 b:g[q]?=some (.bC (G0 qc qf gv lr))
 c:g[qc]?=some (.bC (gy hs))
 f:g[qf]?=some (.bC (gf fs))
theorem jz.at{g g':G}{q qc qf gv lr:Nat}{hs:Hs}{fs:Fs}(B:jz g q qc qf gv lr hs fs)(e:Ex g g'):jz g' q qc qf gv lr hs fs:=⟨e.at B.b,e.at B.c,e.at B.f⟩
structure TD(T:Nat->Option aK):Prop where
 h4:T 4=some S3
 h5:T 5=some rq
 Nm:T 36=some Cf
 Nl:T 37=some By
 h8:T 8=some U1
 zT:T 13=some N6
 zS:T 195=some AJ
 zR:T 196=some Bj
 zQ:T 197=some Ce
 Nx:T 200=some GU
 Nw:T 201=some Gv
 Nv:T 202=some FF
 Nu:T 203=some FH
section
variable{T:Nat->Option aK}{d:Nat}
theorem FK(hT:TD T){j:Int}(hj:0<=j/\j<=1000)(D0:l7 g d)(h:∀(v:Int) g',l7 g' d->Gr d g g'->Q (.int v) g'):b0 T (k+3) 36 [.ref d,.int j] g Q E:=by
 refine call_of hT.Nm rfl ?_;dsimp[Cf,b5,List.replicate];left;refine o8 (k:=k+1) hT.h4 D0 ∅ ∅ λr g1 _ _ D1 G1=>?_;left;refine if2 (λ_=>?_) (λ_=>?_)
 ·left;exact WO (k:=k) hT.h4 hT.h5 D1 λr g2 D2 G2=>h r g2 D2 (G1.trans G2)
 ·left;refine o8 (k:=k+1) hT.h4 D1 () () λr g2 _ _ D2 G2=>?_;left;exact h _ _ D2 (G1.trans G2)
theorem IV(hT:TD T)(hi:g[i]?=some (.lst (ns.map .int)))(hd:d<i)(hz:ns.length<=100)(D0:l7 g d)(h:∀(v:Int) g',l7 g' d->Gr d g g'->Q (.int v) g'):b0 T (k+4) 37 [.ref d,.ref i] g Q E:=by
 refine call_of hT.Nl rfl ?_;dsimp[By,b5,List.replicate];left;rw[av];refine if2 (λ_=>?_) (λc1=>?_)
 ·refine fF rfl ?_;left;refine FK (k:=k) hT (by rw[av];omega) D0 λv g2 D2 G2=>?_;exact h v g2 D2 G2
 left;refine o8 hT.h4 D0 ∅ ∅ λr g1 _ _ D1 G1=>?_;have My:=G1.at () hi;left;refine if2 (λ_=>?_) (λ_=>?_)
 ·left;refine FK (k:=k) hT (by rw[av];omega) D1 λv g2 D2 G2=>?_;exact h v g2 D2 (G1.trans G2)
 ·left;rw[av];refine o8 hT.h4 D1 () () λr2 g2 r0 r1 D2 G2=>?_;obtain⟨y,hy,hm⟩:=Bb (l:=ns.map D.int) r0 (by rw[av];exact r1);obtain⟨v,_,rfl⟩:=aE.mp hm;refine O2 (a4 (G2.at () My)) hy ?_;exact h v g2 D2 (G1.trans G2)
theorem X5(hs:Hs):((gy hs).map (·.1)).map kD=a6 (nums hs):=by
 simp[gy,nums,a6,kD]
theorem S7(fs:Fs):((gf fs).map (·.1)).map kD=a6 (nums fs):=by
 simp[gf,nums,a6,kD]
theorem v7(ha:g[a]?=some (.lst (a6 l)))(inc:gg l)(hz:l.length<=50)(h:Q (.ref g.length) (g++[.lst (a6 l)])):cF .dR [.ref a] g Q:=by
 rw[O3] at ha h;refine Qh (a4 ha) (by simp;omega) ?_;rw[a86 inc];exact h
theorem HB(hT:TD T)(B:jz g q qc qf gv lr hs fs)(inc:gg (nums hs))(hz:hs.length<=50)(h:∀g' r,Ex g g'->g.length<=r->g'[r]?=some (.lst ((n5 hs).map a8.d))->Q (.ref r) g'):b0 T (k+1) 196 [.ref q] g Q E:=by
 refine call_of hT.zR rfl ?_;dsimp[Bj,b5,List.replicate];left;refine V0 (α:=Nat×a8) (a5 T _) (jC (a5 T _) ?_);left;refine j0 B.b rfl Q8 ?_;left;refine X3 B.c (by simp[gy];omega) ?_;rw[X5];left;refine v7 a9 inc (by rw[w6];exact hz) ?_;have e1:=(Ex.snoc g (O.lst (a6 (nums hs)))).trans (Ex.snoc _ (O.lst (a6 (nums hs))));refine⟨_,_,rfl,a4 a9,hs,λp=>.int (p.1:Nat),λZ=>∃z1 z2,Z=[some (.ref q),z1,z2],λ_=>true,λp=>p.2.d,λg' e=>l6 (a4 ?_),by omega,⟨none,none,rfl⟩,λp Z g' hp e sh=>?_,λg' e=>?_⟩
 ·rw[show hs.map (λp=>D.int (p.1:Nat))=a6 (nums hs) by simp[a6,nums]];exact e.at a9
 ·obtain⟨z1,z2,rfl⟩:=sh;refine j3 (L4 ⟨rfl,e,ji ?_⟩);left;have B':=(B.at e1).at e;refine j0 B'.b rfl Q8 ?_;left;exact j0 B'.c rfl (o6 (f:=a8.d) inc hp) ⟨rfl,e,_,_,rfl⟩
 ·rw[O4];refine h _ _ ((e1.trans e).trans (Ex.snoc _ _)) (e1.trans e).len ?_;rw[n5,eJ];exact a9
end
def Cd:aK:=⟨2,3,(.seq (.ifs (cI .NotIn aF (bu aw (bU "coins"))) (.seq (.ret (bR .tup (bU "NoCoin") (.lit .bc))) .pass) .pass) (.seq (.eF (.one 2) (.eN (cu .dR (cu .list (bu aw (bU "facts"))))) (.seq (.ifs (cI .In aF (bu (bu aw (bU "facts")) aR)) (.seq (.expr (.dI .ir (bu aw (bU "facts")) (cB aR))) .pass) .pass) .pass)) (.seq (.ret (bR .tup (bU "") (.dI .ir (bu aw (bU "coins")) (cB aF)))) .pass)))⟩
def Cv:aK:=⟨3,3,(.seq (.ifs (.gX (cI .NotIn aF (bu aw (bU "coins"))) (cI .NotIn aR (bu aw (bU "coins")))) (.seq (.ret (bR .tup (bU "NoCoin") (.lit .bc))) .pass) .pass) (.seq (.ifs (cI .Eq aF aR) (.seq (.ret (bR .tup (bU "SameOne") (.lit .bc))) .pass) .pass) (.seq (.cN aw (bU "learnt") (bR (.bin .Add) (bu aw (bU "learnt")) (aV 1))) (.seq (.cN (bu aw (bU "facts")) (bu aw (bU "learnt")) (bR .tup aF aR)) (.seq (.ret (bR .tup (bU "") (bu aw (bU "learnt")))) .pass)))))⟩
def rn:aK:=⟨2,4,(.seq (.set 2 (bu aF (aV 0))) (.seq (.ifs (cI .Eq aR (bU "put")) (.seq (.ret (.call 197 (dw aw (bu aF (aV 1))))) .pass) .pass) (.seq (.ifs (cI .Eq aR (bU "right")) (.seq (.ifs (cI .NotIn (bu aF (aV 1)) (bu aw (bU "coins"))) (.seq (.ret (bR .tup (bU "NoCoin") (.lit .bc))) .pass) .pass) (.seq (.ifs (.cO (.dQ (.call 13 (cB (bu aF (aV 2)))))) (.seq (.ret (bR .tup (bU "BadCoin") (.lit .bc))) .pass) .pass) (.seq (.set 3 (bu (bu aw (bU "coins")) (bu aF (aV 1)))) (.seq (.cN (bu aw (bU "coins")) (bu aF (aV 1)) (bu aF (aV 2))) (.seq (.ret (bR .tup (bU "") bj)) .pass))))) .pass) (.seq (.ifs (cI .Eq aR (bU "out")) (.seq (.ret (.call 198 (dw aw (bu aF (aV 1))))) .pass) .pass) (.seq (.ifs (cI .Eq aR (bU "tell")) (.seq (.ret (.call 199 (dH aw (bu aF (aV 1)) (bu aF (aV 2))))) .pass) .pass) (.seq (.ifs (cI .Eq aR (bU "untell")) (.seq (.ifs (cI .NotIn (bu aF (aV 1)) (bu aw (bU "facts"))) (.seq (.ret (bR .tup (bU "NoFact") (.lit .bc))) .pass) .pass) (.seq (.ret (bR .tup (bU "") (.dI .ir (bu aw (bU "facts")) (cB (bu aF (aV 1)))))) .pass)) .pass) (.seq (.ifs (cI .Eq aR (bU "one")) (.seq (.ret (.call 202 (qt aw (bu aF (aV 1)) (bu aF (aV 2)) (bu aF (aV 3))))) .pass) .pass) (.seq (.ret (.call 203 (qt aw (bu aF (aV 1)) (bu aF (aV 2)) (bu aF (aV 3))))) .pass))))))))⟩
def J0:aK:=⟨2,3,(.seq (.set 2 (bu aF (aV 0))) (.seq (.ifs (cI .Eq aR (bU "put")) (.seq (.ret (.bo "put" [("Cabinet",214)] aw (cB (bu aF (aV 1))))) .pass) .pass) (.seq (.ifs (cI .Eq aR (bU "right")) (.seq (.ret (.bo "right" [("Cabinet",215)] aw (dw (bu aF (aV 1)) (bu aF (aV 2))))) .pass) .pass) (.seq (.ifs (cI .Eq aR (bU "out")) (.seq (.ret (.bo "out" [("Cabinet",216)] aw (cB (bu aF (aV 1))))) .pass) .pass) (.seq (.ifs (cI .Eq aR (bU "tell")) (.seq (.ret (.bo "tell" [("Cabinet",217)] aw (dw (bu aF (aV 1)) (bu aF (aV 2))))) .pass) .pass) (.seq (.ifs (cI .Eq aR (bU "untell")) (.seq (.ret (.bo "untell" [("Cabinet",218)] aw (cB (bu aF (aV 1))))) .pass) .pass) (.seq (.ifs (cI .Eq aR (bU "one")) (.seq (.ret (.bo "one_die" [("Cabinet",219)] aw (dH (bu aF (aV 1)) (bu aF (aV 2)) (bu aF (aV 3))))) .pass) .pass) (.seq (.ret (.bo "two_dies" [("Cabinet",220)] aw (dH (bu aF (aV 1)) (bu aF (aV 2)) (cu .list (bu aF (aV 3)))))) .pass))))))))⟩
def BH:aK:=⟨2,3,(.seq (.set 2 (cu .dR (cu .list (bu aF (bU "coins"))))) (.seq (.ifs (.gX (.cO (.dQ (.call 7 (dw (.bo "numbers" [("Cabinet",221)] aw .nil) aR)))) (.cO (.dQ (.call 7 (dw (.bo "coins" [("Cabinet",223)] aw .nil) (.call 196 (cB aF))))))) (.seq (.ret (.lit (.bl false))) .pass) .pass) (.seq (.ifs (.cO (.dQ (cu .all (.comp [1,0] 4 (.one 3) (.eN aR) .no (.call 7 (dw (.bo "coin" [("Cabinet",222)] aF (cB bj)) (bu (bu aw (bU "coins")) bj))))))) (.seq (.ret (.lit (.bl false))) .pass) .pass) (.seq (.ret (.call 7 (dw (.bo "facts" [("Cabinet",224)] aw .nil) (.comp [1] 3 (.one 2) (.eN (cu .dR (cu .list (bu aF (bU "facts"))))) .no (bR (.bin .Add) (cu .tup aR) (bu (bu aw (bU "facts")) aR)))))) .pass))))⟩
def Y9:aK:=⟨2,2,(.seq (.expr (.bo "check_number" [("Cabinet",209)] aw (cB aF))) (.seq (.fC "claims" ["Cabinet"] aw (bR .lY (cu (.fld "claims") aw) aF)) (.seq (.ret (.dI .ir (cu (.fld "held") aw) (cB aF))) .pass)))⟩
def N8:aK:=⟨2,2,(.seq (.ifs (.gX (.cO (.dQ (.call 38 (cB aF)))) (cI .NotIn aF (cu (.fld "claims") aw))) (.seq (.raise "NoFact" (cB (bU "no fact has that number"))) .pass) .pass) (.seq (.ret (.dI .ir (cu (.fld "claims") aw) (cB aF))) .pass))⟩
structure Fl(a b c:Nat)(g g':G):Prop where
 len:g.length<=g'.length
 old:∀i,(i≠a/\i≠b/\i≠c)->i<g.length->g'[i]?=g[i]?
section
variable{d:Nat}{g2:G}
theorem Fl.at(F:Fl a b c g g')(h:i≠a/\i≠b/\i≠c)(e:g[i]?=some o):g'[i]?=some o:=(F.old i h (j2 e)).trans e
theorem Ex.fl(e:Ex g g'):Fl a b c g g':=⟨e.len,λi _ h=>e.old i h⟩
theorem Fl.trans(F:Fl a b c g g')(F2:Fl a b c g' g2):Fl a b c g g2:=⟨aA F.len F2.len,λi h l=>(F2.old i h (ay l F.len)).trans (F.old i h l)⟩
theorem Fl.set(F:Fl a b c g g'){i:Nat}(h:i=a\/i=b\/i=c)(o:O):Fl a b c g (g'.set i o):=⟨by rw[List.length_set];exact F.len,λj hj l=>by rw[aB ()];exact F.old j hj l⟩
theorem Fl.draw(F:Fl a b c g g')(D0:l7 g d)(h:d<a/\d<b/\d<c):l7 g' d:=by
 obtain⟨s,p,x,r,xs,e1,e2,hs,q⟩:=D0.ex;exact⟨s,p,x,r,xs,F.at () e1,F.at () e2,hs,q⟩
end
def fW(l:List Nat)(v:Int):Bool:=l.any λn=>decide ((n:Int)=v)
theorem vb:fW l v=true↔∃n∈l,v=(n:Nat):=by
 unfold fW;rw[bO];exact⟨λ⟨n,h,e⟩=>⟨n,h,(aQ e).symm⟩,λ⟨n,h,e⟩=>⟨n,h,aH e.symm⟩⟩
theorem T4{hs:List (Nat×α)}(h:fW (nums hs) v=true):∃n x,v=(n:Nat)/\(n,x)∈hs:=by
 obtain⟨n,hn,e⟩:=vb.mp h;obtain⟨⟨n',x⟩,hp,rfl⟩:=aE.mp hn;exact⟨n',x,e,hp⟩
def E3{α:Type}(hs:List (Nat×α))(n:Nat):List (Nat×α):=hs.filter λp=>decide (p.1≠n)
theorem Vq{a:Nat}:decide (kC a≠kC b)=decide (a≠b):=gD.mpr (not_congr ⟨λz=>by have:(a:Int)=b:=df z;omega,λz=>by rw[z]⟩)
theorem va{f:α->D}(hs:List (Nat×α))(n:Nat):delD (hs.map λp=>(kC p.1,f p.2)) (kC n)=(E3 hs n).map λp=>(kC p.1,f p.2):=by
 unfold delD E3;rw[lA];exact dX _ (List.filter_congr λp _=>Vq)
def A6(v:Int)(p:Nat×Int×Int):Bool:=!(decide (p.2.1=v)||decide (p.2.2=v))
def kP(p:Nat×Int×Int):Key×Int×Int:=(kC p.1,p.2)
theorem Fy(fs:Fs):(fs.map kP).map kK=gf fs:=by
 unfold gf;rw[eJ]
 rfl
theorem Py(fs:Fs)(v:Int):((fs.map kP).filter (X7 v)).map kK=gf (fs.filter (A6 v)):=by
 rw[lA,<- Fy]
 rfl
theorem Vs(h:gg (nums fs)):((fs.map kP).map (·.1)).Nodup:=by
 rw[eJ];exact dy.mpr ((dy.mp h).imp λz e=>by have:((_:Nat):Int)=(_:Nat):=df e;omega)
theorem gg.sub{l m:List (Nat×α)}(h:gg (nums l))(s:m.Sublist l):gg (nums m):=vL (s.map _) h
theorem JJ{x y:Int}(h:n∉nums fs):putD (gf fs) (kC n) (.tup [.int x,.int y])=gf (fs++[(n,x,y)]):=by
 unfold putD;rw[aG]
 ·simp[gf]
 ·intro z;obtain⟨p,hx,e⟩:=bO.mp z;obtain⟨p,hp,rfl⟩:=aE.mp hx;have:(p.1:Int)=n:=df (aQ e);exact h (aE.mpr ⟨p,hp,by omega⟩)
theorem CY:m5 (G0 qc qf gv lr) (.inr "learnt")=some (.int (lr:Nat)):=rfl
noncomputable abbrev pD(p:Int×Int):D:=.tup [.int p.1,.int p.2]
structure TE(T:Nat->Option aK):Prop where
 tc:TC T
 td:TD T
 h6:T 6=some vk
 h7:T 7=some E4
 wy:T 22=some xj
 zL:T 210=some J5
 Nq:T 215=some Ia
 zK:T 216=some Y9
 zJ:T 217=some U3
 zI:T 218=some N8
 zP:T 198=some Cd
 zO:T 199=some Cv
 nJ:T 204=some rn
 nH:T 205=some J0
 zN:T 207=some BH
section
variable{T:Nat->Option aK}{d:Nat}{c:a8}
theorem rW{f:α->D}{hs:List (Nat×α)}(h:g[a]?=some (.bC (hs.map λp=>(kC p.1,f p.2))))(hk:kb (fW (nums hs) v)):mD g (.int v) (.ref a) kb:=⟨_,.inl ⟨a,_,.inl v,rfl,h,rfl,rfl⟩,by rw[OR];exact hk⟩
theorem BG(hT:TC T)(C:gZ g m hd cl lc lf hs fs)(hn:fW (nums hs) v=false->E ⟨"NoCoin"⟩ g)(h:fW (nums hs) v=true->Q .bc g):b0 T (k+2) 209 [.ref m,.int v] g Q E:=by
 refine call_of hT.ud rfl ?_;dsimp[x6,b5,List.replicate];left;refine F7 (k:=k) hT.nf ?_;left;refine n9 C.o rfl ?_;refine P5 (rW (f:=a8.d) C.h ?_);left;by_cases hv:fW (nums hs) v=true
 ·refine eO (by rw[hv];rfl) ?_;exact h hv
 ·have hv:=bS.mpr hv;refine fF (by rw[hv];rfl) ?_;left;exact hn hv
theorem HC(hT:TC T)(hn:i0 c=false->E ⟨"BadCoin"⟩ g)(h:i0 c=true->Q .bc g):b0 T (k+5) 39 [c.d] g Q E:=by
 refine call_of hT.oz.2 rfl ?_;dsimp[L8,b5,List.replicate];left;refine U7 hT.nf hT.h2 hT.nK ?_;left;by_cases hc:i0 c=true
 ·refine eO (by rw[hc];rfl) ?_;exact h hc
 ·have hc:=bS.mpr hc;refine fF (by rw[hc];rfl) ?_;left;exact hn hc
def p8(hs:Hs)(c:a8):Str:=if i0 c=false then "BadCoin" else if hs.length=9 then "Full" else ""
theorem Gz(hT:TC T)(C:gZ g m hd cl lc lf hs fs)(O1:nW hs)(dq:∀n∈nums hs,n<=lc)(n2:m≠hd)(n3:cl≠hd)(n4:cl≠m)(hn:p8 hs c≠""->E ⟨p8 hs c⟩ g)(h:p8 hs c=""->i0 c=true->hs.length<9->∀g',Fl m hd cl g g'->gZ g' m hd cl (lc+1:Nat) lf (hs++[(lc+1,c)]) fs->Q (.int (lc+1:Nat)) g'):b0 T (k+6) 214 [.ref m,c.d] g Q E:=by
 by_cases hc:i0 c=true
 ·have hz:=O1.len;by_cases h9:hs.length=9
  ·have e:p8 hs c="Full":=by unfold p8;rw[aG (by rw[hc];decide),aN h9]
   rw[e] at hn;refine call_of hT.pQ rfl ?_;dsimp[J8,b5,List.replicate];left;refine HC (k:=k) hT (λz=>by rw[hc] at z;cases z) λ_=>?_;left;refine n9 C.o rfl ?_;refine Cb C.h ?_;left;refine fF (aH (by simp[gy,h9])) ?_;left;exact hn (by decide +kernel)
  ·have e:p8 hs c="":=by unfold p8;rw[aG (by rw[hc];decide),aG h9]
   exact Yb (k:=k) hT C hc () dq n2 n3 n4 λg' l o C'=>h e hc () g' ⟨by omega,λi hi _=>o i hi.2.1 hi.1⟩ C'
 ·have hc:=bS.mpr hc;have e:p8 hs c="BadCoin":=by unfold p8;rw[aN hc]
  rw[e] at hn;refine call_of hT.pQ rfl ?_;dsimp[J8,b5,List.replicate];left;exact HC (k:=k) hT (λ_=>hn (by decide +kernel)) λz=>by rw[hc] at z;cases z
theorem TM(hT:TE T)(C:gZ g m hd cl lc lf hs fs)(O1:nW hs)(inc:gg (nums fs))(hf:fs.length<1000)(n2:m≠hd)(n3:cl≠hd)(hn:fW (nums hs) v=false->E ⟨"NoCoin"⟩ g)(h:∀n x g',v=(n:Nat)->(n,x)∈hs->Fl m hd cl g g'->gZ g' m hd g.length lc lf (E3 hs n) (fs.filter (A6 v))->Q x.d g'):b0 T (k+3) 216 [.ref m,.int v] g Q E:=by
 have lm:=j2 C.o;have lh:=j2 C.h;refine call_of hT.zK rfl ?_;dsimp[Y9,b5,List.replicate];left;refine j6 C.o rfl rfl ?_;left;refine BG (k:=k) hT.tc C hn λhv=>?_;obtain⟨n,x,rfl,hp⟩:=T4 hv;left;refine n9 C.o rfl ?_;left;refine Xx (fs:=fs.map kP) (by rw[Fy];exact C.c) (by simpa using hf) (Vs inc) ?_;rw[Py];have e1:=Ex.snoc g (O.bC (gf (fs.filter (A6 (n:Nat)))));have s1:=a9 (g:=g) (o:=O.bC (gf (fs.filter (A6 (n:Nat)))));have C1:=C.at e1;generalize g++[_]=g1 at *;left;refine K4 C1.o (by simp) (by simp) ?_;have e3:(O.ins "Cabinet" (i6 "claims" (.ref g.length) [("held",.ref hd),("claims",.ref cl),("last_coin",.int (lc:Nat)),("last_fact",.int (lf:Nat))]))=fI hd g.length (lc:Nat) (lf:Nat):=rfl;rw[e3];have o2:=get_set C1.o (o':=fI hd g.length (lc:Nat) (lf:Nat));have h2:=a7 C1.h n2 (o':=fI hd g.length (lc:Nat) (lf:Nat));left;refine n9 o2 rfl ?_;left;refine⟨uI h2,?_⟩;left;refine uV h2 rfl (o6 (f:=a8.d) O1.inc hp) ?_;rw[show delD (gy hs) (kC n)=gy (E3 hs n) from va (f:=a8.d) hs n];exact h n x _ rfl hp (((Ex.fl e1).set (.inl rfl) _).set (.inr (.inl rfl)) _) ⟨a7 o2 (bf n2),get_set h2,a7 (a7 s1 ()) ()⟩
def n8(hs:Hs)(v u:Int):Str:=if fW (nums hs) v=false\/fW (nums hs) u=false then "NoCoin" else if v=u then "SameOne" else ""
theorem Wq(hT:TE T)(C:gZ g m hd cl lc lf hs fs)(dq:∀n∈nums fs,n<=lf)(hf:fs.length<1000)(n2:m≠hd)(n3:cl≠hd)(n4:cl≠m)(hn:n8 hs v u≠""->E ⟨n8 hs v u⟩ g)(h:n8 hs v u=""->∀g',Fl m hd cl g g'->gZ g' m hd cl lc (lf+1:Nat) hs (fs++[(lf+1,v,u)])->Q (.int (lf+1:Nat)) g'):b0 T (k+4) 217 [.ref m,.int v,.int u] g Q E:=by
 refine call_of hT.zJ rfl ?_;dsimp[U3,b5,List.replicate];left;refine j6 C.o rfl rfl ?_;left;refine call_of hT.zL rfl ?_;dsimp[J5,b5,List.replicate];have no:(fW (nums hs) v=false\/fW (nums hs) u=false)->E ⟨"NoCoin"⟩ g:=λz=>by
  have e:n8 hs v u="NoCoin":=by unfold n8;rw[aN z]
  rw[e] at hn;exact hn (by decide +kernel)
 left;refine j6 C.o rfl rfl ?_;left;refine BG (k:=k) hT.tc C (λz=>no (.inl z)) λh1=>?_;left;refine j6 C.o rfl rfl ?_;left;refine BG (k:=k) hT.tc C (λz=>no (.inr z)) λh2=>?_;have nn:¬(fW (nums hs) v=false\/fW (nums hs) u=false):=by rw[h1,h2];decide
 left;refine if2 (λz=>?_) (λz=>?_)
 ·have e:n8 hs v u="SameOne":=by unfold n8;rw[aG nn,aN z]
  rw[e] at hn;left;exact hn (by decide +kernel)
 have e:n8 hs v u="":=by unfold n8;rw[aG nn,aG z]
 refine Ir ?_;left;refine⟨m,_,_,_,rfl,C.o,by simp,rfl,?_⟩;refine Kj ?_;refine⟨_,C.o,by simp,?_⟩;have o2:=get_set C.o (o':=fI hd cl (lc:Nat) (lf+1:Nat));have c2:=a7 C.c (bf n4) (o':=fI hd cl (lc:Nat) (lf+1:Nat));left;refine n9 o2 rfl ?_;left;refine n9 o2 rfl ?_;refine ql c2 rfl (by simp[gf];omega) ?_;rw[JJ (n:=lf+1) (λz=>by have:=dq _ z;omega)];left;have o3:=a7 o2 n4 (o':=O.bC (gf (fs++[(lf+1,v,u)])));refine n9 o3 rfl ?_;exact h e _ (((Ex.fl (Ex.refl g)).set (.inl rfl) _).set (.inr (.inr rfl)) _) ⟨o3,a7 (a7 C.h n2) n3,get_set c2⟩
theorem Ra(hT:TE T)(C:gZ g m hd cl lc lf hs fs)(inc:gg (nums fs))(n3:cl≠hd)(n4:cl≠m)(hn:fW (nums fs) v=false->E ⟨"NoFact"⟩ g)(h:∀n x g',v=(n:Nat)->(n,x)∈fs->Fl m hd cl g g'->gZ g' m hd cl lc lf hs (E3 fs n)->Q (pD x) g'):b0 T (k+2) 218 [.ref m,.int v] g Q E:=by
 refine call_of hT.zI rfl ?_;dsimp[N8,b5,List.replicate];left;refine F7 (k:=k) hT.tc.nf ?_;left;refine n9 C.o rfl ?_;left;refine P5 (rW (f:=pD) C.c ?_);left;by_cases hv:fW (nums fs) v=true
 ·refine eO (by rw[hv];rfl) ?_;obtain⟨n,x,rfl,hp⟩:=T4 hv;left;refine n9 C.o rfl ?_;left;refine⟨uI C.c,?_⟩;left;refine uV C.c rfl (o6 (f:=pD) inc hp) ?_;rw[show delD (gf fs) (kC n)=gf (E3 fs n) from va (f:=pD) fs n];exact h n x _ rfl hp ((Ex.fl (Ex.refl g)).set (.inr (.inr rfl)) _) ⟨a7 C.o n4,a7 C.h n3,get_set C.c⟩
 ·have hv:=bS.mpr hv;refine fF (by rw[hv];rfl) ?_;left;exact hn hv
end
structure Sd where
 lc:Nat
 lf:Nat
 hs:Hs
 fs:Fs
def lj(hs:Hs)(fs:Fs):Prop:=∀f∈fs,f.2.1≠f.2.2/\(∃n∈nums hs,f.2.1=(n:Nat))/\∃n∈nums hs,f.2.2=(n:Nat)
structure kM(s:Sd):Prop where
 K:nW s.hs
 lt:∀j∈nums s.hs,j<=s.lc
 inc:gg (nums s.fs)
 qD:∀j∈nums s.fs,j<=s.lf
 fl:s.fs.length<=s.lf
 inf:lj s.hs s.fs
inductive jA where
 |val (d:D)|lst (l:List Nat)
def jA.at(lo:Nat)(g:G)(y:D):jA->Prop
 |.val d=>y=d
 |.lst l=>∃r,y=.ref r/\lo<=r/\g[r]?=some (.lst (a6 l))
def jA.ok:jA->Prop
 |.val d=>∀g,j7 g 2 d d
 |.lst l=>l.length<=1000
theorem j7.up{x:D}(h:j7 g n x y):j7 g (n+1) x y:=by
 induction h with
 |bc=>exact .bc
 |bl b=>exact .bl b
 |int i=>exact .int i
 |str x=>exact .str x
 |tup hl h hz ih=>exact .tup hl ih hz
 |lst ha hb hl h hz ih=>exact .lst ha hb hl ih hz
theorem X4(ms:List Int)(hz:ms.length<=1000):j7 g (n+1) (.tup (ms.map .int)) (.tup (ms.map .int)):=by
 refine .tup rfl (λi x y hx hy=>?_) (by simpa using hz);rw[hx] at hy;cases hy;rw[ah,aa] at hx;obtain⟨j,_,rfl⟩:=hx;exact .int _
theorem Bt{c:a8}(h:sk c):j7 g 2 c.d c.d:=by
 have h1:=h.l8;have h2:=h.u8;refine .tup rfl (λi x y hx hy=>?_) (by simp);rw[hx] at hy;cases hy
 match i,hx with
 |0,hx=>cases hx;exact .int _
 |1,hx=>cases hx;exact X4 _ ()
 |2,hx=>cases hx;exact .int _
 |3,hx=>cases hx;exact X4 _ ()
 |4,hx=>cases hx;exact .int _
 |i+5,hx=>simp at hx
section
variable{T:Nat->Option aK}{d:Nat}{c:a8}
theorem YQ(O1:nW hs)(ha:g[a]?=some (.lst ((n5 hs).map a8.d)))(hb:g[b]?=some (.lst ((n5 hs).map a8.d))):j7 g 3 (.ref a) (.ref b):=by
 refine .lst ha hb rfl (λi x y hx hy=>?_) (by have:=O1.len;simp[n5];omega);rw[hx] at hy;cases hy;rw[ah,aa] at hx;obtain⟨c,hc,rfl⟩:=hx;obtain⟨p,hp,rfl⟩:=aE.mp (aO hc);exact Bt (O1.good p hp)
theorem GP(ha:g[a]?=some (.lst (a6 l)))(hb:g[b]?=some (.lst (a6 l)))(hz:l.length<=1000):j7 g 1 (.ref a) (.ref b) :=
 a30 ha hb (λx hx=>by obtain⟨i,_,rfl⟩:=aE.mp hx;exact .inl ⟨_,rfl⟩) (by simpa[a6] using hz)
theorem jA.Tn{an:jA}(ok:an.ok){lo l2:Nat}{y2:D}(h:an.at lo g y)(h2:an.at l2 g y2):j7 g 2 y y2:=by
 cases an with
 |val d=>rw[show y=d from h,show y2=d from h2];exact ok g
 |lst l =>
  obtain⟨r,rfl,_,e⟩:=h;obtain⟨r2,rfl,_,e2⟩:=h2;exact(GP e e2 ok).up
theorem Kf(hT:TE T)(B:jz g q qc qf gv lr hs fs)(O1:nW hs)(dq:∀n∈nums hs,n<=gv)(n2:q≠qc)(n3:qf≠qc)(n4:qf≠q)(hn:p8 hs c≠""->∀g',Ex g g'->Q (.tup [.str (p8 hs c),.bc]) g')(h:p8 hs c=""->∀g',Fl q qc qf g g'->jz g' q qc qf (gv+1) lr (hs++[(gv+1,c)]) fs->Q (.tup [.str "",.int (gv+1:Nat)]) g'):b0 T (k+3) 197 [.ref q,c.d] g Q E:=by
 have hz:=O1.len;refine call_of hT.td.zQ rfl ?_;dsimp[Ce,b5,List.replicate];left;refine YG (k:=k) (d:=g.length) hT.td.h8 hT.td.zT λg1 G1 _=>?_;have e1:=Ex.TL G1;have B1:=B.at e1;left;by_cases hc:i0 c=true
 ·refine eO (by rw[hc];rfl) ?_;left;refine j0 B1.b rfl Q8 ?_;refine Cb B1.c ?_;left;rw[gy,av];refine if2 (λz=>?_) (λz=>?_)
  ·have e:p8 hs c="Full":=by unfold p8;rw[aG (by rw[hc];decide),aN ()]
   rw[e] at hn;left;exact hn (by decide +kernel) _ e1
  have e:p8 hs c="":=by unfold p8;rw[aG (by rw[hc];decide),aG ()]
  left;refine j0 B1.b rfl CW ?_;left;refine ql B1.b rfl (by simp[G0]) ?_;have b2:=get_set B1.b (o':=O.bC (G0 qc qf (gv+1) lr));have c2:=a7 B1.c n2 (o':=O.bC (G0 qc qf (gv+1) lr));left;refine j0 b2 rfl Q8 ?_;left;refine j0 b2 rfl CW ?_;refine ql c2 rfl (by simp[gy];omega) ?_;rw[JK (n:=gv+1) (λz=>by have:=dq _ z;omega)];have b3:=a7 b2 (bf n2) (o':=O.bC (gy (hs++[(gv+1,c)])));left;refine j0 b3 rfl CW ?_;left;exact h e _ (((Ex.fl e1).set (.inl rfl) _).set (.inr (.inl rfl)) _) ⟨b3,get_set c2,a7 (a7 B1.f (bf n4)) (bf n3)⟩
 ·have hc:=bS.mpr hc;have e:p8 hs c="BadCoin":=by unfold p8;rw[aN hc]
  rw[e] at hn;refine fF (by rw[hc];rfl) ?_;left;exact hn (by decide +kernel) _ e1
theorem drop_eq(h:fs[i]?=some f):fs.drop i=f::fs.drop (i+1):=by
 obtain⟨hi,e⟩:=ao.mp h;rw[dJ hi,e]
def K8(fs:Fs)(v:Int)(i:Nat):Fs:=(fs.take i).filter (A6 v)++fs.drop i
theorem RE(fs:Fs)(v:Int)(i:Nat):(K8 fs v i).Sublist fs:=by
 conv=>rhs;rw[<- ig i fs]
 exact List.Sublist.append ft (List.Sublist.refl _)
theorem RD(h:fs[i]?=some f):f∈K8 fs v i:=bE _ (by rw[drop_eq h];simp)
theorem a43(h:fs[i]?=some f)(hk:A6 v f=true):K8 fs v (i+1)=K8 fs v i:=by
 unfold K8;rw[drop_eq h,bt,h];simp[hk]
theorem a44(inc:gg (nums fs))(h:fs[i]?=some f)(hk:A6 v f=false):E3 (K8 fs v i) f.1=K8 fs v (i+1):=by
 obtain⟨hi,e⟩:=ao.mp h;have pw:=cQ.mp (dy.mp inc);unfold K8 E3;rw[drop_eq h,bt,h,cz,dc];simp only[ne_eq,not_true,decide_false,Bool.false_eq_true,if_false,Option.toList_some,List.filter_append,List.filter_cons,hk,List.filter_nil,List.append_nil]
 congr 1
 ·refine fu.mpr λp hp=>aH λz=>?_;obtain⟨j,hj,e2⟩:=fq (bg.mp hp).1;rw[cy] at hj;have:=pw j i () hi ();rw[jJ] at e2;rw[e,e2] at this;omega
 ·refine fu.mpr λp hp=>aH λz=>?_;obtain⟨j,hj,e2⟩:=fq hp;rw[ku] at hj;have:=pw i (i+1+j) hi () ();rw[List.getElem_drop] at e2;rw[e,e2] at this;omega
theorem WH(hT:TE T)(B:jz g q qc qf gv lr hs fs)(O1:nW hs)(inc:gg (nums fs))(hf:fs.length<=50)(n2:q≠qc)(n3:qf≠qc)(n4:qf≠q)(hn:fW (nums hs) v=false->Q (.tup [.str "NoCoin",.bc]) g)(h:∀n x g',v=(n:Nat)->(n,x)∈hs->Fl q qc qf g g'->jz g' q qc qf gv lr (E3 hs n) (fs.filter (A6 v))->Q (.tup [.str "",x.d]) g'):b0 T (k+1) 198 [.ref q,.int v] g Q E:=by
 refine call_of hT.zP rfl ?_;dsimp[Cd,b5,List.replicate];left;refine j0 B.b rfl Q8 ?_;left;refine P5 (rW (f:=a8.d) B.c ?_);left;by_cases hv:fW (nums hs) v=true
 case neg =>
  have hv:=bS.mpr hv;refine fF (by rw[hv];rfl) ?_;left;exact hn hv
 refine eO (by rw[hv];rfl) ?_;obtain⟨n,x,rfl,hp⟩:=T4 hv;left;refine K3 (a5 T _) (jC (a5 T _) ?_);left;refine j0 B.b rfl Q7 ?_;left;refine X3 B.f (by simp[gf];omega) ?_;rw[S7];left;refine v7 a9 inc (by rw[w6];exact hf) ?_;have e1:=(Ex.snoc g (O.lst (a6 (nums fs)))).trans (Ex.snoc _ (O.lst (a6 (nums fs))));have s1:=a9 (g:=g++[O.lst (a6 (nums fs))]) (o:=O.lst (a6 (nums fs)));have l1:g.length<(g++[O.lst (a6 (nums fs))]).length:=by simp
 generalize (g++[O.lst (a6 (nums fs))]).length=sr at *;generalize (g++[O.lst (a6 (nums fs))])++[O.lst (a6 (nums fs))]=g1 at *;have lq:=j2 B.f;refine⟨sr,_,rfl,a4 s1,a6 (nums fs),λi Z g'=>(∃z,Z=[some (.ref q),some (.int (n:Nat)),z])/\Fl q qc qf g g'/\g'[sr]?=some (.lst (a6 (nums fs)))/\jz g' q qc qf gv lr hs (K8 fs (n:Nat) i),λi Z g' p=>l6 (a4 p.2.2.1),⟨⟨none,rfl⟩,Ex.fl e1,s1,?_⟩,λi y Z g' hy p=>?_,λZ g' p=>?_⟩
 ·rw[show K8 fs (n:Nat) 0=fs by simp[K8]];exact B.at e1
 ·obtain⟨⟨z,rfl⟩,F2,s2,B2⟩:=p;rw[a6,ah,aa] at hy;obtain⟨j,hj,rfl⟩:=hy;rw[nums,ah,aa] at hj;obtain⟨⟨j',x1,x2⟩,tS,rfl⟩:=hj;have yC:=inc.sub (RE fs (n:Nat) i);have vm:=o6 (f:=pD) yC (RD (v:=(n:Nat)) tS);refine j3 ?_
  try show wpS _ _ _ _ _ _
  left;refine j0 B2.b rfl Q7 ?_;left;refine j0 B2.f rfl vm ?_;left;refine rg (RO (ms:=[x1,x2]) rfl ?_);left;by_cases hk:A6 (n:Nat) (j',x1,x2)=true
  ·refine eO (aM λz=>?_) ?_
   ·unfold A6 at hk;simp at hk z;omega
   left;refine⟨⟨_,rfl⟩,F2,s2,?_⟩;rw[a43 tS hk];exact B2
  ·have hk:=bS.mpr hk;refine fF (aH ?_) ?_
   ·unfold A6 at hk;simp at hk ⊢;omega
   left;refine j0 B2.b rfl Q7 ?_;left;refine⟨uI B2.f,?_⟩;left;refine uV B2.f rfl vm ?_;rw[show delD (gf (K8 fs (n:Nat) i)) (kC j')=gf (E3 (K8 fs (n:Nat) i) j') from va (f:=pD) _ _,a44 inc tS hk];exact⟨⟨_,rfl⟩,F2.set (.inr (.inr rfl)) _,a7 s2 (),a7 B2.b n4,a7 B2.c n3,get_set B2.f⟩
 ·obtain⟨⟨z,rfl⟩,F2,s2,B2⟩:=p;rw[show K8 fs (n:Nat) (a6 (nums fs)).length=fs.filter (A6 (n:Nat)) by simp[K8,a6,nums]] at B2
  try show wpS _ _ _ _ _ _
  left;refine j0 B2.b rfl Q8 ?_;left;refine⟨uI B2.c,?_⟩;left;refine uV B2.c rfl (o6 (f:=a8.d) O1.inc hp) ?_;rw[show delD (gy hs) (kC n)=gy (E3 hs n) from va (f:=a8.d) hs n];left;exact h n x _ rfl hp (F2.set (.inr (.inl rfl)) _) ⟨a7 B2.b (bf n2),get_set B2.c,a7 B2.f (bf n3)⟩
theorem Pb(hT:TE T)(B:jz g q qc qf gv lr hs fs)(dq:∀n∈nums fs,n<=lr)(hf:fs.length<1000)(n2:q≠qc)(n3:qf≠qc)(n4:qf≠q)(hn:n8 hs v u≠""->Q (.tup [.str (n8 hs v u),.bc]) g)(h:n8 hs v u=""->∀g',Fl q qc qf g g'->jz g' q qc qf gv (lr+1) hs (fs++[(lr+1,v,u)])->Q (.tup [.str "",.int (lr+1:Nat)]) g'):b0 T (k+1) 199 [.ref q,.int v,.int u] g Q E:=by
 refine call_of hT.zO rfl ?_;dsimp[Cv,b5,List.replicate];have no:(fW (nums hs) v=false\/fW (nums hs) u=false)->Q (.tup [.str "NoCoin",.bc]) g:=λz=>by
  have e:n8 hs v u="NoCoin":=by unfold n8;rw[aN z]
  rw[e] at hn;exact hn (by decide +kernel)
 left;refine j0 B.b rfl Q8 ?_;refine P5 (rW (f:=a8.d) B.c ?_);left;by_cases h1:fW (nums hs) v=true
 case neg =>
  have h1:=bS.mpr h1;refine fF (by rw[h1];rfl) ?_;left;exact no (.inl h1)
 refine eO (by rw[h1];rfl) ?_;left;refine j0 B.b rfl Q8 ?_;refine P5 (rW (f:=a8.d) B.c ?_);left;by_cases h2:fW (nums hs) u=true
 case neg =>
  have h2:=bS.mpr h2;refine fF (by rw[h2];rfl) ?_;left;exact no (.inr h2)
 refine eO (by rw[h2];rfl) ?_;have nn:¬(fW (nums hs) v=false\/fW (nums hs) u=false):=by rw[h1,h2];decide
 left;refine if2 (λz=>?_) (λz=>?_)
 ·have e:n8 hs v u="SameOne":=by unfold n8;rw[aG nn,aN z]
  rw[e] at hn;left;exact hn (by decide +kernel)
 have e:n8 hs v u="":=by unfold n8;rw[aG nn,aG z]
 left;refine j0 B.b rfl CY ?_;left;refine ql B.b rfl (by simp[G0]) ?_;have b2:=get_set B.b (o':=O.bC (G0 qc qf gv (lr+1)));have f2:=a7 B.f (bf n4) (o':=O.bC (G0 qc qf gv (lr+1)));left;refine j0 b2 rfl Q7 ?_;left;refine j0 b2 rfl CY ?_;refine ql f2 rfl (by simp[gf];omega) ?_;rw[JJ (n:=lr+1) (λz=>by have:=dq _ z;omega)];have b3:=a7 b2 n4 (o':=O.bC (gf (fs++[(lr+1,v,u)])));left;refine j0 b3 rfl CY ?_;left;exact h e _ (((Ex.fl (Ex.refl g)).set (.inl rfl) _).set (.inr (.inr rfl)) _) ⟨b3,a7 (a7 B.c n2) n3,get_set f2⟩
end
structure Ad(d m hd cl q qc qf:Nat):Prop where
 h:d<m/\m<hd/\hd<q/\q<qc/\qc<qf/\d<cl/\cl≠m/\cl≠hd/\cl≠q/\cl≠qc/\cl≠qf
structure Wd(g:G)(d m hd cl q qc qf:Nat)(s:Sd):Prop where
 dr:l7 g d
 C:gZ g m hd cl s.lc s.lf s.hs s.fs
 B:jz g q qc qf s.lc s.lf s.hs s.fs
 K:kM s
 A:Ad d m hd cl q qc qf
def Gf(T:Nat->Option aK)(k:Nat)(g:G)(m hd cl:Nat)(dd:D)(e:Str)(an:jA)(s':Sd):Prop:=∀(Q:KD) (E:KX),(e≠""->∀g',Ex g g'->E ⟨e⟩ g') ->
 (e=""->∀g' y gI,Fl m hd cl g g'->(gI=cl\/g.length<=gI)->gZ g' m hd gI s'.lc s'.lf s'.hs s'.fs->jA.at g.length g' y an->Q y g')->b0 T (k+10) 205 [.ref m,dd] g Q E
def X'(T:Nat->Option aK)(k:Nat)(g:G)(q qc qf:Nat)(dd:D)(e:Str)(an:jA)(s':Sd):Prop:=∀(Q:KD) (E:KX),(e≠""->∀g',Ex g g'->Q (.tup [.str e,.bc]) g') ->
 (e=""->∀g' y,Fl q qc qf g g'->jz g' q qc qf s'.lc s'.lf s'.hs s'.fs->jA.at g.length g' y an->Q (.tup [.str "",y]) g')->b0 T (k+11) 204 [.ref q,dd] g Q E
inductive Step(T:Nat->Option aK)(k:Nat)(g:G)(m hd cl q qc qf:Nat)(s:Sd)(Wo:Str->Prop)(dd:D):Prop
 |mk (e:Str) (an:jA) (s':Sd) (ok:an.ok) (K:e=""->kM s') (l:s'.lf<=s.lf+1) (hw:Wo e) (hc:Gf T k g m hd cl dd e an s') (hb:∀g1,Fl m hd cl g g1->jz g1 q qc qf s.lc s.lf s.hs s.fs->X' T k g1 q qc qf dd e an s'):Step T k g m hd cl q qc qf s Wo dd
def sf(e:Str):Prop:=e="BadCoin"\/e="Full"\/e="NoCoin"\/e=""
def si(e:Str):Prop:=sf e\/e="SameOne"\/e="NoFact"
theorem Step.mono{T:Nat->Option aK}{s:Sd}{Wo Wp:Str->Prop}(S:Step T k g m hd cl q qc qf s Wo dd)(i:∀e,Wo e->Wp e):Step T k g m hd cl q qc qf s Wp dd:=let ⟨e,an,s',a,b,c,w,h1,h2⟩:=S;⟨e,an,s',a,b,c,i e w,h1,h2⟩
theorem Yu(hs:Hs)(v u:Int):si (n8 hs v u):=by
 unfold n8;split
 ·exact .inl (.inr (.inr (.inl rfl)))
 ·split
  ·exact .inr (.inl rfl)
  ·exact .inl (.inr (.inr (.inr rfl)))
theorem SF(hs:Hs)(c:a8):sf (p8 hs c):=by
 unfold p8 sf;split
 ·simp
 ·split<;>simp
theorem Qx{c:a8}(h:p8 hs c=""):i0 c=true/\hs.length≠9:=by
 unfold p8 at h;split at h
 ·exact absurd h (by decide +kernel)
 ·rename_i c1;split at h
  ·exact absurd h (by decide +kernel)
  ·rename_i c2;exact⟨by simpa using c1,c2⟩
theorem lj.more{h2:Hs}(h:lj hs fs)(a:∀n∈nums hs,n∈nums h2):lj h2 fs:=λf hf =>
 let ⟨d,⟨n,h1,e1⟩,m,h2,e2⟩:=h f hf
 ⟨d,⟨n,a n h1,e1⟩,m,a m h2,e2⟩
theorem lj.out(h:lj hs fs):lj (E3 hs n) (fs.filter (A6 (n:Nat))):=λf hf=>by
 obtain⟨h1,h2⟩:=bg.mp hf;obtain⟨d,⟨a,ha,ea⟩,b,hb,eb⟩:=h f h1;simp only[A6,Bool.not_eq_true',Bool.or_eq_false_iff,decide_eq_false_iff_not] at h2;have keep:∀x:Nat,x∈nums hs->((x:Nat):Int)≠n->x∈nums (E3 hs n):=λx hx ne=>by
  obtain⟨p,hp,rfl⟩:=aE.mp hx;exact aE.mpr ⟨p,bg.mpr ⟨hp,aH λz=>ne (by rw[z])⟩,rfl⟩
 exact⟨d,⟨a,keep a ha (by rw[<- ea];exact h2.1),ea⟩,b,keep b hb (by rw[<- eb];exact h2.2),eb⟩
theorem kM.put{s:Sd}{c:a8}(K:kM s)(hB:CB c)(h:p8 s.hs c=""):kM ⟨s.lc+1,s.lf,s.hs++[(s.lc+1,c)],s.fs⟩:=by
 obtain⟨hg,h9⟩:=Qx h;have hz:=K.K.len;refine⟨⟨?_,by simp;omega,λp hp=>?_⟩,λj hj=>?_,K.inc,K.qD,K.fl,K.inf.more λn hn=>by unfold nums at hn ⊢;rw[bB];exact dE _ hn⟩
 ·unfold nums gg;rw[bB,fe];refine⟨K.K.inc,by simp,λx hx y hy=>?_⟩;have:=K.lt x hx;simp at hy;omega
 ·rcases bA.mp hp with z|z
  ·exact K.K.good p z
  ·rw[bx.mp z];exact⟨hg,hB.1,hB.2⟩
 ·unfold nums at hj;rw[bB] at hj;rcases bA.mp hj with z|z
  ·exact jI (K.lt j z)
  ·simp at z;show j<=s.lc+1;omega
theorem kM.sub{s:Sd}(K:kM s){h2:Hs}{f2:Fs}(a:h2.Sublist s.hs)(b:f2.Sublist s.fs)(i:lj h2 f2):kM ⟨s.lc,s.lf,h2,f2⟩ :=
 ⟨⟨K.K.inc.sub a,aA a.length_le K.K.len,λp hp=>K.K.good p (a.subset hp)⟩,λj hj=>K.lt j ((a.map _).subset hj),K.inc.sub b,λj hj=>K.qD j ((b.map _).subset hj),aA b.length_le K.fl,i⟩
theorem kM.tell{s:Sd}(K:kM s)(h:n8 s.hs v u=""):kM ⟨s.lc,s.lf+1,s.hs,s.fs++[(s.lf+1,v,u)]⟩:=by
 have ht:fW (nums s.hs) v=true/\fW (nums s.hs) u=true/\v≠u:=by
  unfold n8 at h;split at h
  ·exact absurd h ∅
  ·rename_i hn;split at h
   ·exact absurd h ∅
   ·rename_i hv;simp only[not_or,Bool.not_eq_false] at hn;exact⟨hn.1,hn.2,hv⟩
 refine⟨K.K,K.lt,?_,λj hj=>?_,by have:=K.fl;simp;omega,λf hf=>?_⟩
 rotate_right
 ·rcases bA.mp hf with z|z
  ·exact K.inf f z
  ·rw[bx.mp z];exact⟨ht.2.2,vb.mp ht.1,vb.mp ht.2.1⟩
 ·unfold nums gg;rw[bB,fe];refine⟨K.inc,by simp,λx hx y hy=>?_⟩;have:=K.qD x hx;simp at hy;omega
 ·unfold nums at hj;rw[bB] at hj;rcases bA.mp hj with z|z
  ·exact jI (K.qD j z)
  ·simp at z;show j<=s.lf+1;omega
theorem uniq{f:α->D}{hs:List (Nat×α)}(inc:gg (nums hs)){n':Nat}{x x':α}(h:(n,x)∈hs)(h':(n',x')∈hs)(e:((n:Nat):Int)=(n':Nat)):n=n'/\f x=f x':=by
 have:n=n':=by omega
 subst this;exact⟨rfl,aD ((o6 (f:=f) inc h).symm.trans (o6 (f:=f) inc h'))⟩
theorem a29(x:Int×Int):j7 g 2 (pD x) (pD x):=X4 (n:=1) [x.1,x.2] (by simp)
section
variable{T:Nat->Option aK}{d:Nat}{s:Sd}{c:a8}
theorem Wd.box(W:Wd g d m hd cl q qc qf s){g1:G}(F:Fl m hd cl g g1):jz g1 q qc qf s.lc s.lf s.hs s.fs:=by
 have:=W.A.h;exact⟨F.at () W.B.b,F.at () W.B.c,F.at () W.B.f⟩
theorem a82(hT:TE T)(W:Wd g d m hd cl q qc qf s)(hB:CB c):Step T k g m hd cl q qc qf s sf (.tup [.str "put",c.d]):=by
 have ad:=W.A.h;refine⟨p8 s.hs c,.val (.int (s.lc+1:Nat)),⟨s.lc+1,s.lf,s.hs++[(s.lc+1,c)],s.fs⟩,λ_=>.int _,W.K.put hB,by simp,SF _ _,λQ E hn h=>?_,λg1 F B Q E hn h=>?_⟩
 ·refine call_of hT.nH rfl ?_;dsimp[J0,b5,List.replicate];left;refine fF (by decide +kernel) ?_;left;refine j6 W.C.o rfl rfl ?_;left;exact Gz (k:=k+3) hT.tc W.C W.K.K W.K.lt () () () (λz=>hn z _ (Ex.refl g)) λe _ _ g' F' C'=>h e g' _ cl F' (.inl rfl) C' rfl
 ·refine call_of hT.nJ rfl ?_;dsimp[rn,b5,List.replicate];left;refine fF (by decide +kernel) ?_;left;exact Kf (k:=k+7) hT B W.K.K W.K.lt () () () hn λe g' F' B'=>h e g' _ F' B' rfl
theorem a83(hT:TE T)(W:Wd g d m hd cl q qc qf s)(hf:s.fs.length<=50):Step T k g m hd cl q qc qf s sf (.tup [.str "out",.int v]):=by
 have ad:=W.A.h;have O1:=W.K.K;obtain⟨e,an,s',ok,K',l',vP,no,key⟩:∃(e:Str) (an:jA) (s':Sd),an.ok/\(e=""->kM s')/\s'.lf<=s.lf+1/\sf e/\(fW (nums s.hs) v=false->e="NoCoin")/\∀n x,v=(n:Nat)->(n,x)∈s.hs->e=""/\an=.val x.d/\s'=⟨s.lc,s.lf,E3 s.hs n,s.fs.filter (A6 v)⟩:=by
  by_cases hv:fW (nums s.hs) v=true
  ·obtain⟨n,x,rfl,hp⟩:=T4 hv;refine⟨"",.val x.d,⟨s.lc,s.lf,E3 s.hs n,s.fs.filter (A6 (n:Nat))⟩,λ_=>Bt (O1.good _ hp),λ_=>W.K.sub ft ft W.K.inf.out,by simp,.inr (.inr (.inr rfl)),λz=>(by rw[hv] at z;cases z),λn' x' e ia=>?_⟩;obtain⟨rfl,e2⟩:=uniq (f:=a8.d) O1.inc hp ia e;exact⟨rfl,by rw[e2],rfl⟩
  ·exact⟨"NoCoin",.val .bc,s,λ_=>.bc,λz=>absurd z (by decide +kernel),by omega,.inr (.inr (.inl rfl)),λ_=>rfl,λn x e hp=>absurd (vb.mpr ⟨n,aE.mpr ⟨_,hp,rfl⟩,e⟩) hv⟩
 refine⟨e,an,s',ok,K',l',vP,λQ E hn h=>?_,λg1 F B Q E hn h=>?_⟩
 ·refine call_of hT.nH rfl ?_;dsimp[J0,b5,List.replicate];left
  iterate 2 (refine eO (by decide +kernel) ?_;left)
  refine fF (by decide +kernel) ?_;left;refine j6 W.C.o rfl rfl ?_;left;refine TM (k:=k+6) hT W.C O1 W.K.inc () () () (λz=>?_) λn x g' ev hp F' C'=>?_
  ·obtain rfl:=no z;exact hn (by decide +kernel) _ (Ex.refl g)
  ·obtain⟨rfl,rfl,rfl⟩:=key n x ev hp;exact h rfl g' _ g.length F' (.inr (au _)) C' rfl
 ·refine call_of hT.nJ rfl ?_;dsimp[rn,b5,List.replicate];left
  iterate 2 (refine eO (by decide +kernel) ?_;left)
  refine fF (by decide +kernel) ?_;left;refine WH (k:=k+9) hT B O1 W.K.inc hf () () () (λz=>?_) λn x g' ev hp F' B'=>?_
  ·obtain rfl:=no z;exact hn (by decide +kernel) _ (Ex.refl g1)
  ·obtain⟨rfl,rfl,rfl⟩:=key n x ev hp;exact h rfl g' _ F' B' rfl
theorem Yt(hT:TE T)(W:Wd g d m hd cl q qc qf s)(hf:s.fs.length<=50):Step T k g m hd cl q qc qf s si (.tup [.str "tell",.int v,.int u]):=by
 have ad:=W.A.h;refine⟨n8 s.hs v u,.val (.int (s.lf+1:Nat)),⟨s.lc,s.lf+1,s.hs,s.fs++[(s.lf+1,v,u)]⟩,λ_=>.int _,λh0=>W.K.tell h0,by simp,Yu _ _ _,λQ E hn h=>?_,λg1 F B Q E hn h=>?_⟩
 ·refine call_of hT.nH rfl ?_;dsimp[J0,b5,List.replicate];left
  iterate 3 (refine eO (by decide +kernel) ?_;left)
  refine fF (by decide +kernel) ?_;left;refine j6 W.C.o rfl rfl ?_;left;exact Wq (k:=k+5) hT W.C W.K.qD () () () () (λz=>hn z _ (Ex.refl g)) λe g' F' C'=>h e g' _ cl F' (.inl rfl) C' rfl
 ·refine call_of hT.nJ rfl ?_;dsimp[rn,b5,List.replicate];left
  iterate 3 (refine eO (by decide +kernel) ?_;left)
  refine fF (by decide +kernel) ?_;left;exact Pb (k:=k+9) hT B W.K.qD () () () () (λz=>hn z _ (Ex.refl g1)) λe g' F' B'=>h e g' _ F' B' rfl
theorem ZK(hT:TE T)(W:Wd g d m hd cl q qc qf s):Step T k g m hd cl q qc qf s si (.tup [.str "untell",.int v]):=by
 have ad:=W.A.h;obtain⟨e,an,s',ok,K',l',qu,no,key⟩:∃(e:Str) (an:jA) (s':Sd),an.ok/\(e=""->kM s')/\s'.lf<=s.lf+1/\si e/\(fW (nums s.fs) v=false->e="NoFact")/\∀n x,v=(n:Nat)->(n,x)∈s.fs->e=""/\an=.val (pD x)/\s'=⟨s.lc,s.lf,s.hs,E3 s.fs n⟩:=by
  by_cases hv:fW (nums s.fs) v=true
  ·obtain⟨n,x,rfl,hp⟩:=T4 hv;refine⟨"",.val (pD x),⟨s.lc,s.lf,s.hs,E3 s.fs n⟩,λ_=>a29 x,λ_=>W.K.sub (List.Sublist.refl _) ft λf hf=>W.K.inf f (bg.mp hf).1,by simp,.inl (.inr (.inr (.inr rfl))),λz=>(by rw[hv] at z;cases z),λn' x' e ia=>?_⟩;obtain⟨rfl,e2⟩:=uniq (f:=pD) W.K.inc hp ia e;exact⟨rfl,by rw[e2],rfl⟩
  ·exact⟨"NoFact",.val .bc,s,λ_=>.bc,λz=>absurd z (by decide +kernel),by omega,.inr (.inr rfl),λ_=>rfl,λn x e hp=>absurd (vb.mpr ⟨n,aE.mpr ⟨_,hp,rfl⟩,e⟩) hv⟩
 refine⟨e,an,s',ok,K',l',qu,λQ E hn h=>?_,λg1 F B Q E hn h=>?_⟩
 ·refine call_of hT.nH rfl ?_;dsimp[J0,b5,List.replicate];left
  iterate 4 (refine eO (by decide +kernel) ?_;left)
  refine fF (by decide +kernel) ?_;left;refine j6 W.C.o rfl rfl ?_;left;refine Ra (k:=k+7) hT W.C W.K.inc () () (λz=>?_) λn x g' ev hp F' C'=>?_
  ·obtain rfl:=no z;exact hn (by decide +kernel) _ (Ex.refl g)
  ·obtain⟨rfl,rfl,rfl⟩:=key n x ev hp;exact h rfl g' _ cl F' (.inl rfl) C' rfl
 ·refine call_of hT.nJ rfl ?_;dsimp[rn,b5,List.replicate];left
  iterate 4 (refine eO (by decide +kernel) ?_;left)
  refine fF (by decide +kernel) ?_;left;refine j0 B.b rfl Q7 ?_;left;refine P5 (rW (f:=pD) B.f ?_);left;by_cases hv:fW (nums s.fs) v=true
  case neg =>
   have hv:=bS.mpr hv;obtain rfl:=no hv;refine fF (by rw[hv];rfl) ?_;left;exact hn (by decide +kernel) _ (Ex.refl _)
  refine eO (by rw[hv];rfl) ?_;obtain⟨n,x,rfl,hp⟩:=T4 hv;obtain⟨rfl,rfl,rfl⟩:=key n x rfl hp;left;refine j0 B.b rfl Q7 ?_;left;refine⟨uI B.f,?_⟩;left;refine uV B.f rfl (o6 (f:=pD) W.K.inc hp) ?_;rw[show delD (gf s.fs) (kC n)=gf (E3 s.fs n) from va (f:=pD) s.fs n];left;exact h rfl _ _ ((Ex.fl (Ex.refl g1)).set (.inr (.inr rfl)) _) ⟨a7 B.b (),a7 B.c (),get_set B.f⟩ rfl
end
section
variable{T:Nat->Option aK}{d:Nat}
theorem YR(ha:g[a]?=some (.lst (fs.map λf=>.tup [.int (f.1:Nat),.int f.2.1,.int f.2.2])))(hb:g[b]?=some (.lst (fs.map λf=>.tup [.int (f.1:Nat),.int f.2.1,.int f.2.2])))(hz:fs.length<=1000):j7 g 2 (.ref a) (.ref b):=by
 refine .lst ha hb rfl (λi x y hx hy=>?_) (by simpa using hz);rw[hx] at hy;cases hy;rw[ah,aa] at hx;obtain⟨f,_,rfl⟩:=hx;exact X4 (n:=0) [(f.1:Int),f.2.1,f.2.2] (by simp)
theorem Hz(hT:TE T)(C:gZ g m hd cl lc lf hs fs)(B:jz g q qc qf gv lr hs fs)(O1:nW hs)(inc:gg (nums fs))(hf:fs.length<=50)(h:∀g',Ex g g'->Q (.bl true) g'):b0 T (k+6) 207 [.ref m,.ref q] g Q E:=by
 have hz:=O1.len;have nl:=w6 hs;refine call_of hT.zN rfl ?_;dsimp[BH,b5,List.replicate];left;refine j0 B.b rfl Q8 ?_;left;refine X3 B.c (by simp[gy];omega) ?_;rw[X5];left;refine v7 a9 O1.inc () ?_;have e1:=(Ex.snoc g (O.lst (a6 (nums hs)))).trans (Ex.snoc _ (O.lst (a6 (nums hs))));have s1:=a9 (g:=g++[O.lst (a6 (nums hs))]) (o:=O.lst (a6 (nums hs)));generalize (g++[O.lst (a6 (nums hs))]).length=sr at *;generalize (g++[O.lst (a6 (nums hs))])++[_]=g1 at *;have C1:=C.at e1;have B1:=B.at e1;left;refine j6 C1.o rfl rfl ?_;left;refine BN (k:=k+4) hT.tc C1 O1.inc () ?_;left;have e2:=Ex.snoc g1 (O.lst (a6 (nums hs)));refine F0 hT.h6 hT.h7 1 (k:=k+2) (GP a9 (e2.at s1) ()) λg3 e3=>?_;have uo:=e2.trans e3;have C3:=C1.at uo;have B3:=B1.at uo;left;refine j6 C3.o rfl rfl ?_;left;refine V2 (k:=k+3) hT.tc C3 O1.inc () λg4 r4 e4 _ L'=>?_;left;refine HB (k:=k+4) hT.td (B3.at e4) O1.inc () λg5 r5 e5 _ LZ=>?_;left;refine F0 hT.h6 hT.h7 3 (k:=k) (YQ O1 (e5.at L') LZ) λg6 e6=>?_;have wF:=uo.trans (e4.trans (e5.trans e6));have C6:=C1.at wF;have B6:=B1.at wF;have s6:=wF.at s1;left;refine V0 (α:=Nat×a8) (a5 T _) (rj (a5 T _) (a4 s6) (λQ q=>w_var rfl q) _ ?_);refine⟨hs,λp=>.int (p.1:Nat),λZ=>∃z1 z2,Z=[some (.ref q),some (.ref m),z1,z2],λ_=>true,λ_=>.bl true,λg' e=>l6 (a4 ?_),by omega,⟨none,none,rfl⟩,λp Z g' hp e sh=>?_,λg7 e7=>?_⟩
 ·rw[show hs.map (λp=>D.int (p.1:Nat))=a6 (nums hs) by simp[a6,nums]];exact e.at s6
 ·obtain⟨z1,z2,rfl⟩:=sh;refine j3 (L4 ⟨rfl,e,ji ?_⟩);have C7:=C6.at e;have B7:=B6.at e;left;refine j6 C7.o rfl rfl ?_;left;refine Rx (k:=k+2) hT.tc C7 O1.inc hp ?_;left;refine j0 B7.b rfl Q8 ?_;left;refine j0 B7.c rfl (o6 (f:=a8.d) O1.inc hp) ?_;left;refine F0 hT.h6 hT.h7 2 (k:=k+1) (Bt (O1.good p hp)) λg8 e8=>?_;exact⟨rfl,e.trans e8,_,_,rfl⟩
 rw[O4];refine BW (v:=true) (a4 a9) ?_ ?_
 ·rw[show hs.map (λ_=>D.bl true)=(hs.map λ_=>true).map D.bl by rw[eJ];rfl,Br];simp
 have e8:=wF.trans (e7.trans (Ex.snoc g7 (O.lst (hs.map λ_=>D.bl true))));generalize g7++[_]=g8 at *;have C8:=C1.at e8;have B8:=B1.at e8;left;refine j6 C8.o rfl rfl ?_;left;refine Bf (k:=k+3) hT.tc C8 inc hf λg9 r9 e9 _ LY=>?_;have B9:=B8.at e9;left;refine V0 (α:=Nat×Int×Int) (a5 T _) (jC (a5 T _) ?_);left;refine j0 B9.b rfl Q7 ?_;left;refine X3 B9.f (by simp[gf];omega) ?_;rw[S7];left;refine v7 a9 inc (by rw[w6];exact hf) ?_;have EO:=(Ex.snoc g9 (O.lst (a6 (nums fs)))).trans (Ex.snoc _ (O.lst (a6 (nums fs))));refine⟨_,_,rfl,a4 a9,fs,λp=>.int (p.1:Nat),λZ=>∃z1 z2,Z=[some (.ref q),z1,z2],λ_=>true,λf=>.tup [.int (f.1:Nat),.int f.2.1,.int f.2.2],λg' e=>l6 (a4 ?_),by omega,⟨none,none,rfl⟩,λp Z g' hp e sh=>?_,λNL NS=>?_⟩
 ·rw[show fs.map (λp=>D.int (p.1:Nat))=a6 (nums fs) by simp[a6,nums]];exact e.at a9
 ·obtain⟨z1,z2,rfl⟩:=sh;refine j3 (L4 ⟨rfl,e,ji ?_⟩);have Ky:=(B9.at EO).at e;left;refine j0 Ky.b rfl Q7 ?_;left;refine j0 Ky.f rfl (o6 (f:=pD) inc hp) ?_;left;refine UI (by simp) ?_;exact⟨rfl,e,_,_,rfl⟩
 rw[O4];have EN:=(EO.trans NS).trans (Ex.snoc NL (O.lst (fs.map λf=>.tup [.int (f.1:Nat),.int f.2.1,.int f.2.2])));left;refine F0 hT.h6 hT.h7 2 (k:=k+1) (YR (EN.at LY) a9 ()) λg12 uo=>?_;exact h _ (((e1.trans e8).trans e9).trans (EN.trans uo))
theorem Pc(hT:TD T)(h:Q (.ref g.length) (g++[.bC (G0 (g.length+1) (g.length+2) 0 0),.bC [],.bC []])):b0 T (k+1) 195 [] g Q E:=by
 refine call_of hT.zS rfl ?_;dsimp[AJ,b5,List.replicate];left;refine Wv ?_;left;refine⟨_,rfl,by simp,by simp,?_⟩;have:((g++[O.bC []]++[O.bC []])++[O.bC []]).set g.length (.bC [(.inr "coins",.ref (g++[O.bC []]).length),(.inr "facts",.ref ((g++[O.bC []])++[O.bC []]).length),(.inr "given",.int 0),(.inr "learnt",.int 0)])=g++[.bC (G0 (g.length+1) (g.length+2) 0 0),.bC [],.bC []]:=by
  simp[G0,List.set_append]
 exact this▸h
theorem Pd(hT:TC T)(h:Q .bc (g++[fI (g.length+1) (g.length+2) 0 0,.bC [],.bC []])):b0 T (k+1) 208 [.ref g.length] (g++[.ins "Cabinet" []]) Q E:=by
 refine call_of hT.zM rfl ?_;dsimp[U4,b5,List.replicate];have s0:=a9 (g:=g) (o:=O.ins "Cabinet" []);left;refine K4 (wZ s0) (by simp) (by simp) ?_;rw[show ∀x:D,i6 "held" x []=([("held",x)]:List (Str×D)) from λ_=>rfl];have s1:=get_set (wZ (o':=O.bC []) s0) (o':=O.ins "Cabinet" [("held",.ref (g++[O.ins "Cabinet" []]).length)]);left;refine K4 (wZ s1) (by simp) (by simp) ?_;generalize hx:D.ref (((g++[O.ins "Cabinet" []]++[O.bC []]).set g.length (O.ins "Cabinet" [("held",.ref (g++[O.ins "Cabinet" []]).length)])).length)=x2 at *;have s2:=get_set (wZ (o':=O.bC []) s1) (o':=O.ins "Cabinet" [("held",.ref (g++[O.ins "Cabinet" []]).length),("claims",x2)]);left;refine K4 s2 (by simp) (by simp) ?_;have s3:=get_set s2 (o':=O.ins "Cabinet" [("held",.ref (g++[O.ins "Cabinet" []]).length),("claims",x2),("last_coin",.int 0)]);left;refine K4 s3 (by simp) (by simp) ?_;rw[show ∀x y z u:D,i6 "last_fact" x [("held",y),("claims",z),("last_coin",u)]=([("held",y),("claims",z),("last_coin",u),("last_fact",x)]:List (Str×D)) from λ_ _ _ _=>rfl];subst hx;refine cast (dX (Q .bc) ?_) h;simp[List.set_append,fI]
end
def u4:aK:=⟨1,2,(.seq (.set 1 (cu .kL (.bo "numbers" [("Cabinet",221)] aw .nil))) (.seq (.ret (.comp [1] 5 (.many [2,3,4]) (.eN (.bo "facts" [("Cabinet",224)] aw .nil)) .no (.prim .tup (dH (bU "coin") (bu aw bj) (bu aw cW))))) .pass))⟩
def M0:aK:=⟨2,2,(.seq (.ret (.call 126 (dH (.bo "coins" [("Cabinet",223)] aw .nil) aF (.bo "fact_rules" [("Cabinet",213)] aw .nil)))) .pass)⟩
def X2:aK:=⟨1,2,(.seq (.set 1 (cu .dR (cu .list (bu aw (bU "coins"))))) (.seq (.ret (.comp [0,1] 4 (.one 3) (.eN (cu .dR (cu .list (bu aw (bU "facts"))))) .no (.prim .tup (dH (bU "coin") (.dI .index aF (cB (bu (bu (bu aw (bU "facts")) bj) (aV 0)))) (.dI .index aF (cB (bu (bu (bu aw (bU "facts")) bj) (aV 1)))))))) .pass))⟩
def iY(hs:Hs)(v:Int):Nat:=(nums hs).findIdx λn:Nat=>decide ((n:Int)=v)
def oP(hs:Hs)(fs:Fs):List gB:=fs.map λf=>⟨.jv,(iY hs f.2.1:Nat),(iY hs f.2.2:Nat)⟩
theorem Jq:∀(l:List Int) (v:Int) (s:Nat),v∈l->m5 ((l.zipIdx s).map λp=>((.inl p.1:Key),D.int p.2)) (.inl v)=some (.int ((s+l.findIdx λn=>decide (n=v):Nat):Int))
 |x::l,v,s,h=>by
  rw[List.zipIdx_cons,bY,List.findIdx_cons];unfold m5;rw[cS];by_cases e:x=v
  ·subst e;simp
  ·have hv:v∈l:=by
    rcases aC.mp h with z|z
    ·exact absurd z.symm e
    ·exact z
   have ih:=Jq l v (s+1) hv;unfold m5 at ih;rw[aM (by intro z;exact e (df z)),aM e];dsimp only[cond];rw[ih]
   congr 2
   omega
theorem Jp(h:n∈nums hs):m5 (oN ((nums hs).map λn:Nat=>(n:Int))) (.inl (n:Int))=some (.int ((iY hs n:Nat):Int)):=by
 have:=Jq ((nums hs).map λn:Nat=>(n:Int)) n 0 (aE.mpr ⟨n,h,rfl⟩);unfold oN iY;rw[this,List.findIdx_map,Nat.zero_add]
 rfl
section
variable{T:Nat->Option aK}{d:Nat}{lc lf:Int}
theorem aB1(hT:TC T)(lU:T 213=some u4)(C:gZ g m hd cl lc lf hs fs)(inc:gg (nums hs))(kB:gg (nums fs))(hz:hs.length<=50)(tB:fs.length<=50)(hI:lj hs fs)(h:∀g' r,Ex g g'->g.length<=r->g'[r]?=some (.lst (E8 (oP hs fs)))->Q (.ref r) g'):b0 T (k+3) 213 [.ref m] g Q E:=by
 refine call_of lU rfl ?_;dsimp[u4,b5,List.replicate];left;refine j6 C.o rfl rfl ?_;left;refine BN (k:=k+1) hT C inc hz ?_;have e1:=Ex.snoc g (O.lst (a6 (nums hs)));rw[O3] at e1 ⊢;left;refine Xw a9 (by simp[nums];omega) (Kk inc) ?_;have e2:=e1.trans (Ex.snoc _ (O.bC (oN ((nums hs).map λn:Nat=>(n:Int)))));have hd2:=a9 (g:=g++[O.lst (((nums hs).map λn:Nat=>(n:Int)).map D.int)]) (o:=O.bC (oN ((nums hs).map λn:Nat=>(n:Int))));generalize (g++[O.lst (((nums hs).map λn:Nat=>(n:Int)).map D.int)]).length=pd at *;generalize g++[O.lst (((nums hs).map λn:Nat=>(n:Int)).map D.int)]++[O.bC (oN ((nums hs).map λn:Nat=>(n:Int)))]=g2 at *;left;refine V0 (α:=Nat×Int×Int) (a5 T _) (jC (a5 T _) ?_);left;refine j6 (C.at e2).o rfl rfl ?_;left;refine Bf (k:=k) hT (C.at e2) kB tB λg3 r e3 _ hr=>?_;refine⟨_,_,rfl,a4 hr,fs,λf=>.tup [.int (f.1:Nat),.int f.2.1,.int f.2.2],λZ=>∃z1 z2 z3 z4,Z=[some (.ref pd),z1,z2,z3,z4],λ_=>true,λf=>.tup [.str "coin",.int (iY hs f.2.1:Nat),.int (iY hs f.2.2:Nat)],λg' e=>l6 (a4 (e.at hr)),by omega,⟨none,none,none,none,rfl⟩,λf Z g' hf e sh=>?_,λg' e=>?_⟩
 ·obtain⟨z1,z2,z3,z4,rfl⟩:=sh;obtain⟨_,⟨n1,h1,uq⟩,n2,h2,Am⟩:=hI f hf;refine G9 rfl (L4 ⟨rfl,e,ji ?_⟩);left;have Em:=(e3.trans e).at hd2;rw[uq,Am];refine j0 Em rfl (Jp h1) ?_;left;refine j0 Em rfl (Jp h2) ?_;left;exact⟨rfl,e,_,_,_,_,rfl⟩
 ·rw[O4];refine h _ _ ((e2.trans (e3.trans e)).trans (Ex.snoc _ _)) (e2.trans (e3.trans e)).len ?_;rw[a9];simp[E8,oP,gB.d,RW.s]
end
section
variable{T:Nat->Option aK}{lc lf:Int}
theorem Kp(h:n∈nums hs):iY hs n<hs.length:=by
 unfold iY;have:=List.findIdx_lt_length_of_exists (p:=λm:Nat=>decide ((m:Int)=(n:Int))) (xs:=nums hs) ⟨n,h,by simp⟩
 rwa [w6] at this
theorem CD(h:n∈nums hs):(nums hs)[iY hs n]?=some n:=by
 have h1:iY hs n<(nums hs).length:=by rw[w6];exact Kp h
 have h2:=List.findIdx_getElem (p:=λm:Nat=>decide ((m:Int)=(n:Int))) (xs:=nums hs) (w:=h1);rw[ak h1];have:=aQ h2
 congr 1
 exact Int.ofNat.inj this
theorem Qf{n':Nat}(h:n∈nums hs)(h':n'∈nums hs)(e:iY hs n=iY hs n'):n=n':=by
 have h1:=CD h;have h2:=CD h';rw[e,h2] at h1;exact(aD h1).symm
theorem GZ(hI:lj hs fs):(oP hs fs).all (u7 (n5 hs))=true:=by
 rw[bP];intro r hr;obtain⟨f,hf,rfl⟩:=aE.mp hr;obtain⟨hd,⟨n1,h1,e1⟩,n2,h2,e2⟩:=hI f hf;have fK:∀{n:Nat},n∈nums hs->(iM (n5 hs) .jv ((iY hs n:Nat):Int)).isEmpty=false:=λ{n} h=>by
  have:iY hs n∈iM (n5 hs) .jv ((iY hs n:Nat):Int):=by
   unfold iM;rw[bg,bX];exact⟨by simp[n5];exact Kp h,by simp[meant]⟩
  cases e:iM (n5 hs) .jv ((iY hs n:Nat):Int) with
  |nil=>rw[e] at this;cases this
  |cons _ _=>rfl
 unfold u7;dsimp only;rw[e1,e2,fK h1,fK h2,aM]
 ·rfl
 ·intro z;have:n1=n2:=Qf h1 h2 (Int.ofNat.inj z);exact hd (by rw[e1,e2,this])
theorem Yj(hT:TC T)(hB:TB T)(hF:TF T)(hW:TW T)(kJ:T 126=some U2)(lU:T 213=some u4)(pP:T 226=some M0)(C:gZ g m hd cl lc lf hs fs)(O1:nW hs)(wx:∀c∈n5 hs,CB c)(kB:gg (nums fs))(tB:fs.length<=50)(hI:lj hs fs)(hv:1<=v/\v<=9)(h:∀g',Ex g g'->Q (.int ((A2 hs.length (nR (n5 hs) v (oP hs fs)) 0).length:Nat)) g'):b0 T (k+12) 226 [.ref m,.int v] g Q E:=by
 refine call_of pP rfl ?_;dsimp[M0,b5,List.replicate];left;refine j6 C.o rfl rfl ?_;left;refine V2 (k:=k+9) hT C O1.inc (by have:=O1.len;omega) λg1 r1 e1 _ Ma=>?_;left;refine j6 (C.at e1).o rfl rfl ?_;left;refine aB1 (k:=k+8) hT lU (C.at e1) O1.inc kB (by have:=O1.len;omega) tB hI λg2 r2 e2 _ tG=>?_;left;have hl:(n5 hs).length=hs.length:=by simp[n5]
 refine HI (k:=k) hB hF hW kJ (e2.at Ma) (by rw[hl];exact O1.len) (HD O1) wx hv tG (by simp[oP];omega) (GZ hI) λg3 e3=>?_;rw[hl];exact h _ (e1.trans (e2.trans e3))
end
section
variable{T:Nat->Option aK}{d:Nat}
theorem GG(h:n∈nums hs):wH (a6 (nums hs)) (.int (n:Nat)) (iY hs n):=by
 refine⟨?_,rfl,⟨.int (n:Nat),by rw[a6,ah,CD h];rfl,by simp[toV,jW]⟩,λm z hm hz=>?_⟩
 ·rw[bP];intro y hy;obtain⟨i,_,rfl⟩:=aE.mp hy
  rfl
 ·rw[a6,ah,aa] at hz;obtain⟨i,hi,rfl⟩:=hz;have hl:=(ao.mp hi).1;have:=List.not_of_lt_findIdx (p:=λj:Nat=>decide ((j:Int)=(n:Int))) (xs:=nums hs) (i:=m) hm;rw[(ao.mp hi).2] at this;simp[toV,jW] at this ⊢;omega
theorem ZP(pO:T 231=some X2)(B:jz g q qc qf gv lr hs fs)(inc:gg (nums hs))(kB:gg (nums fs))(hz:hs.length<=50)(tB:fs.length<=50)(hI:lj hs fs)(h:∀g' r,Ex g g'->g.length<=r->g'[r]?=some (.lst (E8 (oP hs fs)))->Q (.ref r) g'):b0 T (k+1) 231 [.ref q] g Q E:=by
 refine call_of pO rfl ?_;dsimp[X2,b5,List.replicate];left;refine j0 B.b rfl Q8 ?_;left;refine X3 B.c (by simp[gy];omega) ?_;rw[X5];left;refine v7 a9 inc (by rw[w6];exact hz) ?_;have e1:=(Ex.snoc g (O.lst (a6 (nums hs)))).trans (Ex.snoc _ (O.lst (a6 (nums hs))));have Md:=a9 (g:=g++[O.lst (a6 (nums hs))]) (o:=O.lst (a6 (nums hs)));generalize (g++[O.lst (a6 (nums hs))]).length=pd at *;generalize g++[O.lst (a6 (nums hs))]++[O.lst (a6 (nums hs))]=g1 at *;left;refine V0 (α:=Nat×Int×Int) (a5 T _) (jC (a5 T _) ?_);left;refine j0 (B.at e1).b rfl Q7 ?_;left;refine X3 (B.at e1).f (by simp[gf];omega) ?_;rw[S7];left;refine v7 a9 kB (by rw[w6];exact tB) ?_;have e2:=(Ex.snoc g1 (O.lst (a6 (nums fs)))).trans (Ex.snoc _ (O.lst (a6 (nums fs))));refine⟨_,_,rfl,a4 a9,fs,λp=>.int (p.1:Nat),λZ=>∃z1 z2,Z=[some (.ref q),some (.ref pd),z1,z2],λ_=>true,λf=>.tup [.str "coin",.int (iY hs f.2.1:Nat),.int (iY hs f.2.2:Nat)],λg' e=>l6 (a4 ?_),by omega,⟨none,none,rfl⟩,λf Z g' hf e sh=>?_,λg' e=>?_⟩
 ·rw[show fs.map (λp=>D.int (p.1:Nat))=a6 (nums fs) by simp[a6,nums]];exact e.at a9
 ·obtain⟨z1,z2,rfl⟩:=sh;obtain⟨_,⟨n1,h1,uq⟩,n2,h2,Am⟩:=hI f hf;have hv:=o6 (f:=λx:Int×Int=>D.tup [.int x.1,.int x.2]) kB hf;have B':=((B.at e1).at e2).at e;have kE:=(e2.trans e).at Md;have wb:(a6 (nums hs)).length<=100000:=by simp[a6,nums];omega
  refine j3 (L4 ⟨rfl,e,ji ?_⟩);left;refine⟨Km (a4 kE),?_⟩;left;refine j0 B'.b rfl Q7 ?_;left;refine j0 B'.f rfl hv ?_;left;rw[uq];refine FI (a4 kE) (GG h1) wb ?_;left;refine⟨Km (a4 kE),?_⟩;left;refine j0 B'.b rfl Q7 ?_;left;refine j0 B'.f rfl hv ?_;left;rw[Am];refine FI (a4 kE) (GG h2) wb ?_;left;exact⟨rfl,e,_,_,rfl⟩
 ·rw[O4];refine h _ _ ((e1.trans (e2.trans e)).trans (Ex.snoc _ _)) (e1.trans (e2.trans e)).len ?_;rw[a9];simp[E8,oP,gB.d,RW.s]
end
def Vy:aK:=⟨1,1,(.seq (.iU (.dQ (.lit (.bl true))) (.seq .pass .pass)) .pass)⟩
def ZD:aK:=⟨1,2,(.seq (.set 1 (.call 117 (cB aw))) (.seq (.ifs (cI .Eq (bu aF (cu (.un .USub) (aV 1))) (cu (.fld "full") aw)) (.seq (.ret (.lit .bc)) .pass) .pass) (.seq (.ret aF) .pass)))⟩
def RY:aK:=⟨3,3,(.seq (.ret (.call 129 (cB (.call 99 (dH aw aF aR))))) .pass)⟩
def Zz:aK:=⟨3,3,(.seq (.ifs (cI .Eq aF (bU "coin")) (.seq (.expr (.call 83 (dw aw aR))) .pass) (.seq (.expr (.call 75 (dH aw aF aR))) .pass)) .pass)⟩
def YS:aK:=⟨4,4,(.seq (.ifs (cI .NotIn aF (.lit (.tup [(.str "coin"),(.str "lower"),(.str "upper")]))) (.seq (.raise "BadSide" (cB (bU "asked about are coins, lower dies or upper dies"))) .pass) .pass) (.seq (.expr (.call 136 (dH aw aF aR))) (.seq (.expr (.call 136 (dH aw aF bj))) (.seq (.ifs (cI .Eq aR bj) (.seq (.raise "SameOne" (cB (bU "two unlike ones are asked about"))) .pass) .pass) .pass))))⟩
def Xg:aK:=⟨6,10,(.seq (.expr (.call 98 (dH aw aF aR))) (.seq (.expr (.call 137 (qt aw bj cW ff))) (.seq (.set 6 (.make "Bounds" 113 (dH aw aF (bR (.bin .Add) aR (cu .lst (.prim .tup (dH bj cW ff))))))) (.seq (.set 7 (.make "Bounds" 113 (dH aw aF (bR (.bin .Add) aR (cu .lst (.prim .tup (dH bj ff cW))))))) (.seq (.set 8 (.call 124 (cB fE))) (.seq (.set 9 (.call 124 (cB js))) (.seq (.ifs (.dC (cI .Is lJ (.lit .bc)) (cI .Is pC (.lit .bc))) (.seq (.raise "NoOrder" (cB (bU "there is no order"))) .pass) .pass) (.seq (.ifs (cI .Is pC (.lit .bc)) (.seq (.ret (bR .tup (bU "first") (.call 129 (cB js)))) .pass) .pass) (.seq (.ifs (cI .Is lJ (.lit .bc)) (.seq (.ret (bR .tup (bU "later") (.call 129 (cB fE)))) .pass) .pass) (.seq (.ret (.prim .tup (dH (bU "either") lJ pC))) .pass))))))))))⟩
def PL:aK:=⟨6,6,(.seq (.ret (bu (.call 138 (Aa aw aF aR bj cW ff)) (aV 0))) .pass)⟩
def Cy:aK:=⟨2,2,(.seq (.nU (.seq (.ret (bR .lst (bU "") (.call 205 (dw aw aF)))) .pass) [("BadCoin",(.prim .lst (.cons (.lit (.str "BadCoin")) (.cons (.lit .bc) .nil)))),("Full",(.prim .lst (.cons (.lit (.str "Full")) (.cons (.lit .bc) .nil)))),("NoCoin",(.prim .lst (.cons (.lit (.str "NoCoin")) (.cons (.lit .bc) .nil)))),("SameOne",(.prim .lst (.cons (.lit (.str "SameOne")) (.cons (.lit .bc) .nil)))),("NoFact",(.prim .lst (.cons (.lit (.str "NoFact")) (.cons (.lit .bc) .nil))))]) .pass)⟩
def rA:aK:=⟨1,9,(.seq (.set 1 (.call 3 (cB aw))) (.seq (.set 2 (.make "Cabinet" 208 .nil)) (.seq (.set 3 (.call 195 .nil)) (.seq (.eF (.one 4) (.fk (bR (.bin .Add) (aV 2) (.call 4 (dw aF (aV 8))))) (.seq (.set 5 (.call 22 (cB aF))) (.seq (.expr (.bo "put" [("Cabinet",214)] aR (cB ff))) (.seq (.expr (.call 197 (dw bj ff))) .pass)))) (.seq (.eF (.one 4) (.fk (bR (.bin .Add) (aV 8) (.call 4 (dw aF (aV 23))))) (.seq (.set 6 (cu .dR (cu .list (bu bj (bU "coins"))))) (.seq (.set 7 (.call 4 (dw aF (aV 8)))) (.seq (.set 8 (.prim .tup (dH (bU "tell") (.call 37 (dw aF fE)) (.call 37 (dw aF fE))))) (.seq (.ifs (cI .Eq js (aV 0)) (.seq (.set 8 (bR .tup (bU "out") (.call 37 (dw aF fE)))) .pass) .pass) (.seq (.ifs (cI .Eq js (aV 1)) (.seq (.set 8 (bR .tup (bU "put") (.call 22 (cB aF)))) .pass) .pass) (.seq (.ifs (cI .In js (bR .lst (aV 2) (aV 3))) (.seq (.set 8 (bR .tup (bU "untell") (.call 37 (dw aF (cu .dR (cu .list (bu bj (bU "facts")))))))) .pass) .pass) (.seq (.ifs (.cO (.dQ (.call 7 (dw (.call 49 (dw aR lJ)) (cu .list (.call 204 (dw bj lJ))))))) (.seq (.ret (.lit (.bl false))) .pass) .pass) (.seq (.ifs (.cO (.dQ (.call 207 (dw aR bj)))) (.seq (.ret (.lit (.bl false))) .pass) .pass) (.seq (.expr (.dI .append (.bo "facts" [("Cabinet",224)] aR .nil) (cB (.prim .tup (dH (aV 0) (aV 0) (aV 0)))))) .pass)))))))))) (.seq (.ifs (.cO (.dQ (.call 7 (dw (.bo "many" [("Cabinet",226)] aR (cB (aV 9))) (.call 126 (dH (.call 196 (cB bj)) (aV 9) (.call 231 (cB bj)))))))) (.seq (.ret (.lit (.bl false))) .pass) .pass) (.seq (.ret (.call 207 (dw aR bj))) .pass)))))))⟩
def aA9:aK:=⟨2,4,(.seq (.set 2 (.call 125 (dH (.bo "coins" [("Cabinet",223)] aw .nil) aF (.bo "fact_rules" [("Cabinet",213)] aw .nil)))) (.seq (.ifs (cI .Is aR (.lit .bc)) (.seq (.ret (.lit .bc)) .pass) .pass) (.seq (.set 3 (.bo "numbers" [("Cabinet",221)] aw .nil)) (.seq (.ret (.comp [3] 3 (.one 2) (.eN aR) .no (bu aw aR))) .pass))))⟩
def aA8:aK:=⟨2,2,(.seq (.ret (.call 132 (dH (.bo "coins" [("Cabinet",223)] aw .nil) aF (.bo "fact_rules" [("Cabinet",213)] aw .nil)))) .pass)⟩
def ZY:aK:=⟨4,5,(.seq (.expr (.call 42 (cB aF))) (.seq (.expr (.bo "check_pair" [("Cabinet",210)] aw (dw aR bj))) (.seq (.set 4 (.bo "numbers" [("Cabinet",221)] aw .nil)) (.seq (.ret (.call 139 (Aa (.bo "coins" [("Cabinet",223)] aw .nil) aF (.bo "fact_rules" [("Cabinet",213)] aw .nil) (bU "coin") (.dI .index cW (cB aR)) (.dI .index cW (cB bj))))) .pass))))⟩
def Yh:aK:=⟨1,1,(.seq (.expr (.call 41 (cB (aV 0)))) .pass)⟩
def ZZ:aK:=⟨1,1,(.seq (.expr (.call 41 (cB (aV 1)))) .pass)⟩
structure xR(T:Nat->Option aK):Prop where
 te:TE T
 tb:TB T
 tf:TF T
 tw:TW T
 kJ:T 126=some U2
 lU:T 213=some u4
 pP:T 226=some M0
 pO:T 231=some X2
 h3:T 3=some xM
 Nj:T 49=some Cy
 NA:T 11=some rA
section
variable{T:Nat->Option aK}{d:Nat}{s:Sd}{c:a8}
theorem Wd.gr(W:Wd g d m hd cl q qc qf s)(D':l7 g' d)(G':Gr d g g'):Wd g' d m hd cl q qc qf s:=by
 have:=W.A.h;exact⟨D',⟨G'.at () W.C.o,G'.at () W.C.h,G'.at () W.C.c⟩,⟨G'.at () W.B.b,G'.at () W.B.c,G'.at () W.B.f⟩,W.K,W.A⟩
theorem Wd.at(W:Wd g d m hd cl q qc qf s)(e:Ex g g'):Wd g' d m hd cl q qc qf s:=W.gr (e.draw W.dr) (e.gr d)
theorem Wd.set(W:Wd g d m hd cl q qc qf s){r:Nat}(h:d<r/\r≠m/\r≠hd/\r≠cl/\r≠q/\r≠qc/\r≠qf)(o:O):Wd (g.set r o) d m hd cl q qc qf s :=
 ⟨W.dr.Ue h.1,⟨a7 W.C.o (),a7 W.C.h (),a7 W.C.c ()⟩,⟨a7 W.B.b (),a7 W.B.c (),a7 W.B.f ()⟩,W.K,W.A⟩
theorem JU(hT:xR T){e:Str}{an:jA}{s':Sd}(ht:si e)(hc:Gf T k g m hd cl dd e an s')(hn:e≠""->∀g',Ex g g'->Q (.ref g'.length) (g'++[.lst [.str e,.bc]]))(h:e=""->∀g' y gI,Fl m hd cl g g'->(gI=cl\/g.length<=gI)->gZ g' m hd gI s'.lc s'.lf s'.hs s'.fs->jA.at g.length g' y an->Q (.ref g'.length) (g'++[.lst [.str "",y]])):b0 T (k+11) 49 [.ref m,dd] g Q E:=by
 refine call_of hT.Nj rfl ?_;dsimp[Cy,b5,List.replicate];left;refine hc _ _ (λz g' e'=>?_) λz g' y gI F iF C' A'=>uK (by simp) (h z g' y gI F iF C' A');have hn:=hn z g' e';have one:∀{e:Str},Q (.ref g'.length) (g'++[.lst [.str e,.bc]])->aS (b0 T (k+10)) (.prim .lst (.cons (.lit (.str e)) (.cons (.lit .bc) .nil))) [none,none] g' Q iJ:=λh=>Iv (uY (w_lit (uY (w_lit (Co (uK (by simp) h))))));rcases ht with(rfl|rfl|rfl|rfl)|rfl|rfl
 ·exact uF rfl (one hn)
 ·exact K0 (by decide +kernel) (uF rfl (one hn))
 ·exact K0 (by decide +kernel) (K0 (by decide +kernel) (uF rfl (one hn)))
 ·exact absurd rfl z
 ·exact K0 (by decide +kernel) (K0 (by decide +kernel) (K0 (by decide +kernel) (uF rfl (one hn))))
 ·exact K0 (by decide +kernel) (K0 (by decide +kernel) (K0 (by decide +kernel) (K0 (by decide +kernel) (uF rfl (one hn)))))
theorem JD{r2:Nat}{e:Str}{y2:D}(h1:g[r]?=some (.lst [.str e,y]))(h2:g[r2]?=some (.lst [.str e,y2]))(hy:j7 g 2 y y2):j7 g 3 (.ref r) (.ref r2):=by
 refine .lst h1 h2 rfl (λi p p' hp ia=>?_) (by simp)
 match i,hp,ia with
 |0,hp,ia=>cases hp;cases ia;exact .str _
 |1,hp,ia=>cases hp;cases ia;exact hy
 |i+2,hp,_=>simp at hp
def P8:MS:=match rA.body with
 |.seq _ (.seq _ (.seq _ (.seq _ (.seq (.eF _ _ (.seq _ (.seq _ (.seq _ (.seq _ (.seq _ (.seq _ b))))))) _))))=>b
 |x=>x
def AO:MS:=match P8 with
 |.seq _ b=>b
 |x=>x
theorem Rp(hT:xR T)(W:Wd g d m hd cl q qc qf s)(hf:s.lf<=48){z0 z1 z4 z5 z6 z7 z8:Option D}(h:∀g',Wd g' d m hd cl q qc qf s->N.nx [z0,z1,some (.ref m),some (.ref q),z4,z5,z6,z7,z8] g') :
  wpS (b0 T (k+12)) AO N [z0,z1,some (.ref m),some (.ref q),z4,z5,z6,z7,z8] g E:=by
 have ad:=W.A.h;have fl:=W.K.fl;dsimp[AO,P8,rA];left;refine Hz (k:=k+6) hT.te W.C W.B W.K.K W.K.inc () λg1 e1=>?_;have W1:=W.at e1;have lq:=j2 W1.B.f;have lc:=j2 W1.C.c;have lm:=j2 W1.C.h;left;refine j6 W1.C.o rfl rfl ?_;left;refine Bf (k:=k+10) hT.te.tc W1.C W1.K.inc () λg2 r e2 l2 hr=>?_;have W2:=W1.at e2;refine⟨Kl hr,?_⟩;left;refine Cg hr (by simp;omega) ?_;exact h _ (W2.set () _)
theorem xI(hT:xR T)(W:Wd g d m hd cl q qc qf s)(hf:s.lf<=47){z0 z1 z4 z5 z6 z7:Option D}(S:Step T (k+1) g m hd cl q qc qf s si dd)(h:∀g' gI s',Wd g' d m hd gI q qc qf s'->s'.lf<=s.lf+1->N.nx [z0,z1,some (.ref m),some (.ref q),z4,z5,z6,z7,some dd] g') :
  wpS (b0 T (k+12)) P8 N [z0,z1,some (.ref m),some (.ref q),z4,z5,z6,z7,some dd] g E:=by
 have ad:=W.A.h;have lq:=j2 W.B.f;have lm:=j2 W.C.h;obtain⟨e,an,s',ok,K',l',vP,hc,hb⟩:=S;have BD:=λ{g:G} {cl:Nat} {s:Sd}=>Rp (k:=k) (g:=g) (cl:=cl) (s:=s) (d:=d) (m:=m) (hd:=hd) (q:=q) (qc:=qc) (qf:=qf) (E:=E) (z0:=z0) (z1:=z1) (z4:=z4) (z5:=z5) (z6:=z6) (z7:=z7) (z8:=some dd) hT (N:=N);dsimp[AO,P8,rA] at BD ⊢;left;by_cases he:e=""
 ·refine JU (k:=k+1) hT vP hc (λz=>absurd he z) λ_ g1 y gI F1 iF C1 A1=>?_;have e2:=Ex.snoc g1 (O.lst [D.str "",y]);have s2:=a9 (g:=g1) (o:=O.lst [D.str "",y]);have F2:=F1.trans (Ex.fl e2);have l1:=F1.len;left;refine hb _ F2 (W.box F2) _ _ (λz=>absurd he z) λ_ g3 y3 F3 B3 A3=>?_;have lcl:gI<g1.length:=j2 C1.c;have ne:gI≠q/\gI≠qc/\gI≠qf:=by omega
  have C3:gZ g3 m hd gI s'.lc s'.lf s'.hs s'.fs:=⟨F3.at () (e2.at C1.o),F3.at () (e2.at C1.h),F3.at ne (e2.at C1.c)⟩
  have W3:Wd g3 d m hd gI q qc qf s':=⟨F3.draw (F2.draw W.dr ()) (),C3,B3,K' he,⟨by omega⟩⟩
  have A1':jA.at g.length g3 y an:=by
   cases an with
   |val d=>exact A1
   |lst l =>
    obtain⟨r,rfl,lr,er⟩:=A1;exact⟨r,rfl,lr,F3.at () (e2.at er)⟩
  left;have e4:=Ex.snoc g3 (O.lst [D.str "",y3]);refine F0 hT.te.h6 hT.te.h7 3 (k:=k+7) (JD (e4.at (F3.at () s2)) a9 ((jA.Tn ok A1' A3).ex e4)) λg5 e5=>?_;refine CU (eO rfl ?_);exact BD (W3.at (e4.trans e5)) () λg' W'=>h g' gI s' W' l'
 ·refine JU (k:=k+1) hT vP hc (λ_ g1 e1=>?_) λz=>absurd z he;have e2:=e1.trans (Ex.snoc g1 (O.lst [D.str e,.bc]));have s2:=a9 (g:=g1) (o:=O.lst [D.str e,.bc]);left;refine hb _ (Ex.fl e2) (W.B.at e2) _ _ (λ_ g3 e3=>?_) λz=>absurd z he;left;have e4:=Ex.snoc g3 (O.lst [D.str e,.bc]);refine F0 hT.te.h6 hT.te.h7 3 (k:=k+7) (JD (e4.at (e3.at s2)) a9 .bc) λg5 e5=>?_;refine CU (eO rfl ?_);exact BD (W.at (e2.trans (e3.trans (e4.trans e5)))) () λg' W'=>h g' cl s W' ()
end
section
variable{T:Nat->Option aK}
theorem RU(hT:xR T):b0 T (k+13) 11 [.ref 0] [.nL (ns.map .int)] (λd _=>d=.bl true) iJ:=by
 have h4:=hT.te.td.h4;refine call_of hT.NA rfl ?_;dsimp[rA,b5,List.replicate];left;refine Qc (k:=k+11) hT.h3 (a:=0) (ns:=ns) rfl λd g D0 _ _=>?_;have dl:=D0.lt;left;refine Pd (k:=k+11) hT.te.tc ⟨rfl,?_⟩;left;refine Pc (k:=k+11) hT.te.td ?_;have e1:Ex g ((g++[fI (g.length+1) (g.length+2) 0 0,.bC [],.bC []])++[.bC (G0 ((g++[fI (g.length+1) (g.length+2) 0 0,.bC [],.bC []]).length+1) ((g++[fI (g.length+1) (g.length+2) 0 0,.bC [],.bC []]).length+2) 0 0),.bC [],.bC []]):=⟨by simp,λi hi=>by rw[aI (by simp;omega),aI hi]⟩
 have W:Wd ((g++[fI (g.length+1) (g.length+2) 0 0,.bC [],.bC []])++[.bC (G0 ((g++[fI (g.length+1) (g.length+2) 0 0,.bC [],.bC []]).length+1) ((g++[fI (g.length+1) (g.length+2) 0 0,.bC [],.bC []]).length+2) 0 0),.bC [],.bC []]) d g.length (g.length+1) (g.length+2) (g++[fI (g.length+1) (g.length+2) 0 0,.bC [],.bC []]).length ((g++[fI (g.length+1) (g.length+2) 0 0,.bC [],.bC []]).length+1) ((g++[fI (g.length+1) (g.length+2) 0 0,.bC [],.bC []]).length+2) ⟨0,0,[],[]⟩:=by
  refine⟨e1.draw D0,⟨?_,?_,?_⟩,⟨?_,?_,?_⟩,⟨⟨List.Pairwise.nil,by decide,λp hp=>by cases hp⟩,λj hj=>(by cases hj),List.Pairwise.nil,λj hj=>(by cases hj),by decide,λf hf=>(by cases hf)⟩,⟨by simp;omega⟩⟩
  all_goals first|(simp[gy,gf,List.getElem?_append];done)|(rw[cL (by simp)];simp[gy,gf];done)
 generalize ((g++[fI (g.length+1) (g.length+2) 0 0,.bC [],.bC []])++[.bC (G0 ((g++[fI (g.length+1) (g.length+2) 0 0,.bC [],.bC []]).length+1) ((g++[fI (g.length+1) (g.length+2) 0 0,.bC [],.bC []]).length+2) 0 0),.bC [],.bC []])=g1 at *;generalize (g++[fI (g.length+1) (g.length+2) 0 0,.bC [],.bC []]).length+2=qf at *;generalize (g++[fI (g.length+1) (g.length+2) 0 0,.bC [],.bC []]).length+1=qc at *;generalize (g++[fI (g.length+1) (g.length+2) 0 0,.bC [],.bC []]).length=q at *;generalize g.length+2=cl at *;generalize g.length+1=hd at *;generalize g.length=m at *;have ad:=W.A.h;left;refine K3 (a5 T _) (vj (a5 T _) ?_);left;refine o8 (k:=k+11) h4 W.dr ∅ ∅ λr g2 r0 r1 D2 G2=>?_;left;refine⟨by omega,by omega,_,λi Z g'=>(∃s,Wd g' d m hd cl q qc qf s/\s.lf=0/\s.hs.length=i)/\∃z4 z5,Z=[some (.ref 0),some (.ref d),some (.ref m),some (.ref q),z4,z5,none,none,none],λ_ _ _ _=>J9,⟨⟨_,W.gr D2 G2,rfl,rfl⟩,none,none,rfl⟩,λi y Z g3 hy p=>?_,λZ g3 p=>?_⟩
 ·obtain⟨⟨s,W3,hl,hn⟩,z4,z5,rfl⟩:=p;obtain⟨hi,rfl⟩:=N1 hy;have O1:=W3.K.K;refine j3 ?_
  try show wpS _ _ _ _ _ _
  left;refine HA (k:=k+10) h4 hT.te.wy W3.dr λc g4 hc D4 G4=>?_;have W4:=W3.gr D4 G4;have hp:p8 s.hs c="":=by
   unfold p8;rw[aG (by rw[hc.good];decide),aG ()]
  left;refine j6 W4.C.o rfl rfl ?_;left;refine Gz (k:=k+6) hT.te.tc W4.C O1 W3.K.lt () () () (λz=>absurd hp z) λ_ _ _ g5 F5 C5=>?_;left;refine Kf (k:=k+9) hT.te (W4.box F5) O1 W3.K.lt () () () (λz=>absurd hp z) λ_ g6 F6 B6=>?_;left;exact⟨⟨⟨s.lc+1,s.lf,s.hs++[(s.lc+1,c)],s.fs⟩,⟨F6.draw (F5.draw D4 ()) (),⟨F6.at () C5.o,F6.at () C5.h,F6.at () C5.c⟩,B6,W3.K.put ⟨hc.l8,hc.u8⟩ hp,W3.A⟩,hl,by simp[hn]⟩,_,_,rfl⟩
 obtain⟨⟨s0,W0,tL,_⟩,y4,y5,rfl⟩:=p
 try show wpS _ _ _ _ _ _
 left;refine K3 (a5 T _) (vj (a5 T _) ?_);left;refine o8 (k:=k+11) h4 W0.dr ∅ ∅ λr g2 r0 r1 D2 G2=>?_;left;refine⟨by omega,by omega,_,λi Z g'=>(∃cl s,Wd g' d m hd cl q qc qf s/\s.lf<=i)/\∃z4 z5 z6 z7 z8,Z=[some (.ref 0),some (.ref d),some (.ref m),some (.ref q),z4,z5,z6,z7,z8],λ_ _ _ _=>J9,⟨⟨cl,_,W0.gr D2 G2,by omega⟩,_,_,_,_,_,rfl⟩,λi y Z g3 hy p=>?_,λZ g3 p=>?_⟩
 ·obtain⟨⟨cl,s,W3,hl⟩,z4,z5,z6,z7,z8,rfl⟩:=p;obtain⟨hi,rfl⟩:=N1 hy;have fl:=W3.K.fl;have O1:=W3.K.K;have hz:=O1.len;have nl:=w6 s.hs;have ad:=W3.A.h;refine j3 ?_
  try show wpS _ _ _ _ _ _
  left;refine j0 W3.B.b rfl Q8 ?_;left;refine X3 W3.B.c (by simp[gy];omega) ?_;rw[X5];left;refine v7 a9 O1.inc () ?_;have e1:=(Ex.snoc g3 (O.lst (a6 (nums s.hs)))).trans (Ex.snoc _ (O.lst (a6 (nums s.hs))));have s1:=a9 (g:=g3++[O.lst (a6 (nums s.hs))]) (o:=O.lst (a6 (nums s.hs)));have ls:g3.length<(g3++[O.lst (a6 (nums s.hs))]).length:=by simp
  generalize (g3++[O.lst (a6 (nums s.hs))]).length=sr at *;generalize (g3++[O.lst (a6 (nums s.hs))])++[_]=g4 at *;rw[O3] at s1;have W4:=W3.at e1;have d3:=W3.dr.lt;have zl:((nums s.hs).map λn:Nat=>(n:Int)).length<=100:=by rw[av];omega
  have num:∀{g3:G} {Q:KD} {E:KX},Wd g3 d m hd cl q qc qf s->g3[sr]?=some (.lst (((nums s.hs).map λn:Nat=>(n:Int)).map .int))->(∀(v:Int) g4,Wd g4 d m hd cl q qc qf s->g4[sr]?=some (.lst (((nums s.hs).map λn:Nat=>(n:Int)).map .int))->Q (.int v) g4)->b0 T (k+12) 37 [.ref d,.ref sr] g3 Q E:=λ{g3 Q E} W3 s3 H =>
   IV (k:=k+8) hT.te.td s3 () zl W3.dr λv g4 D4 G4=>H v g4 (W3.gr D4 G4) (G4.at () s3)
  have lG:∀{g3:G} {t:Int} {kb:Bool->Prop},kb (([2,3]:List Int).any λm=>m==t)->mD (g3++[.lst [.int 2,.int 3]]) (.int t) (.ref g3.length) kb:=λh=>GK (ms:=[2,3]) (a4 a9) h;left;refine o8 (k:=k+11) h4 W4.dr ∅ ∅ λt g5 t0 t1 D5 G5=>?_;have W5:=W4.gr D5 G5;have s5:=G5.at () s1;left;refine num W5 s5 λv g6 W6 s6=>?_;left;refine num W6 s6 λu g7 W7 s7=>?_;left;by_cases h0:t=0
  ·refine fF (aH (p:=t=0) h0) ?_;left;refine num W7 s7 λv g8 W8 _=>?_;left;refine eO (aM (p:=t=1) ()) ?_;left;refine rg (lG ?_);left;refine eO (by subst h0;rfl) (Z8 ?_);have W9:=W8.at (Ex.snoc g8 (O.lst [D.int 2,D.int 3]));show wpS (b0 T (k+12)) P8 _ _ _ _;exact xI (k:=k) hT W9 () ((a83 hT.te W9 ()).mono λ_=>.inl) λg' gI s' W' tM=>⟨⟨gI,s',W',by omega⟩,_,_,_,_,_,rfl⟩
  refine eO (aM (p:=t=0) h0) ?_;left;by_cases h1:t=1
  ·refine fF (aH (p:=t=1) h1) ?_;left;refine HA (k:=k+10) h4 hT.te.wy W7.dr λc g8 hc D8 G8=>?_;have W8:=W7.gr D8 G8;left;refine rg (lG ?_);left;refine eO (by subst h1;rfl) (Z8 ?_);have W9:=W8.at (Ex.snoc g8 (O.lst [D.int 2,D.int 3]));show wpS (b0 T (k+12)) P8 _ _ _ _;exact xI (k:=k) hT W9 () ((a82 hT.te W9 ⟨hc.l8,hc.u8⟩).mono λ_=>.inl) λg' gI s' W' tM=>⟨⟨gI,s',W',by omega⟩,_,_,_,_,_,rfl⟩
  refine eO (aM (p:=t=1) h1) ?_;left;refine rg (lG ?_);have e8:=Ex.snoc g7 (O.lst [D.int 2,D.int 3]);have W8:=W7.at e8;have l8:=j2 (e8.at s7);generalize g7++[O.lst [D.int 2,D.int 3]]=g8 at *;left;rcases Bool.eq_false_or_eq_true (([2,3]:List Int).any λm=>m==t) with h2|h2
  ·refine fF h2 ?_;left;refine j0 W8.B.b rfl Q7 ?_;left;refine X3 W8.B.f (by simp[gf];omega) ?_;rw[S7];left;refine v7 a9 W3.K.inc (by rw[w6];omega) ?_;have e9:=(Ex.snoc g8 (O.lst (a6 (nums s.fs)))).trans (Ex.snoc _ (O.lst (a6 (nums s.fs))));have s9:=a9 (g:=g8++[O.lst (a6 (nums s.fs))]) (o:=O.lst (a6 (nums s.fs)));have W9:=W8.at e9;have l9:=w6 s.fs;rw[O3] at s9;left;refine IV (k:=k+8) hT.te.td (ns:=(nums s.fs).map λn:Nat=>(n:Int)) (by rw[O3] at *;exact s9) (by simp;omega) (by rw[av];omega) W9.dr λv g10 D10 G10=>?_;have Ks:=W9.gr D10 G10;refine xO (by simp) ?_;show wpS (b0 T (k+12)) P8 _ _ _ _;exact xI (k:=k) hT Ks () (ZK hT.te Ks) λg' gI s' W' tM=>⟨⟨gI,s',W',by omega⟩,_,_,_,_,_,rfl⟩
  ·refine eO h2 (Z8 ?_);show wpS (b0 T (k+12)) P8 _ _ _ _;exact xI (k:=k) hT W8 () (Yt hT.te W8 ()) λg' gI s' W' tM=>⟨⟨gI,s',W',by omega⟩,_,_,_,_,_,rfl⟩
 ·obtain⟨⟨cl,s,W3,hl⟩,z4,z5,z6,z7,z8,rfl⟩:=p;have fl:=W3.K.fl;have O1:=W3.K.K;have hz:=O1.len;rw[H9] at hl;have wx:∀c∈n5 s.hs,CB c:=λc hc=>by
   obtain⟨p,hp,rfl⟩:=aE.mp hc;exact⟨(O1.good p hp).l8,(O1.good p hp).u8⟩
  have hL:(n5 s.hs).length=s.hs.length:=by simp[n5]
  try show wpS _ _ _ _ _ _
  left;refine j6 W3.C.o rfl rfl ?_;left;refine Yj (k:=k) hT.te.tc hT.tb hT.tf hT.tw hT.kJ hT.lU hT.pP W3.C O1 wx W3.K.inc () W3.K.inf ∅ λg4 e4=>?_;have W4:=W3.at e4;left;refine HB (k:=k+11) hT.te.td W4.B O1.inc () λg5 a e5 _ ha=>?_;have W5:=W4.at e5;left;refine ZP (k:=k+11) hT.pO W5.B O1.inc W3.K.inc () () W3.K.inf λg6 b e6 _ hb=>?_;have W6:=W5.at e6;left;refine HI (k:=k+1) hT.tb hT.tf hT.tw hT.kJ (e6.at ha) () (HD O1) wx ∅ hb (by simp[oP];omega) (GZ W3.K.inf) λg7 e7=>?_;have W7:=W6.at e7;rw[hL];left;refine F0 hT.te.h6 hT.te.h7 1 (k:=k+9) (.int _) λg8 e8=>?_;have W8:=W7.at e8;left;exact Hz (k:=k+6) hT.te W8.C W8.B W8.K.K W8.K.inc () λ_ _=>rfl
end
end M
namespace Lk
open PySem L2 M
def top(i:Nat):Stmt:=PySem.Challenge.pw_trussel_k42_facts_told.main.body.getD i (.Pass ⟨0,0,0,0⟩)
def Pf:Stmt->List Stmt
 |.ClassDef (body:=b) ..=>b
 |_=>[]
def Gx(i j:Nat):Stmt:=(Pf (top i)).getD j (.Pass ⟨0,0,0,0⟩)
def F:List RF:=[⟨41,"_wall",["k"],1,0,Vy⟩,⟨38,"is_number",["thing"],1,18,Bx⟩,⟨1,"number_from",["number","least","most"],3,19,Y6⟩,⟨2,"good_marks",["marks","least","spot"],1,20,I9⟩,⟨15,"within",["one","other"],2,21,xc⟩,⟨12,"good_coin",["coin","lower","lower_marks","upper","upper_marks","year","good_lower","good_upper"],1,28,v8⟩,⟨39,"check_coin",["coin"],1,29,L8⟩,⟨18,"check_coins",["coins","coin"],1,30,Y8⟩,⟨83,"check_place",["coins","place"],2,31,Zy⟩,⟨40,"check_side",["side"],1,32,S5⟩,⟨19,"die_field",["side"],1,33,Bv⟩,⟨177,"with_thing",["things","at","thing"],3,34,Ho⟩,⟨74,"places_of",["coins","word","thing","field"],3,35,Q3⟩,⟨75,"check_die",["coins","side","die"],3,36,GR⟩,⟨20,"dies_of",["coins","side","field"],2,37,xb⟩,⟨42,"check_anvils",["anvils"],1,42,E9⟩,⟨88,"good_rule",["coins","rule","word","one","other"],2,43,Bw⟩,⟨89,"check_rules",["coins","rules","at","rule"],2,44,Y7⟩,⟨90,"stand_of",["places"],1,45,xn⟩,⟨91,"with_coin",["stand","place"],2,46,V8⟩,⟨92,"more_worn",["one","other","side","field"],2,47,GS⟩,⟨93,"later",["one","other"],2,48,Cw⟩,⟨94,"worn_stands",["coins"],1,49,HL⟩,⟨95,"later_stands",["coins"],1,50,HV⟩,⟨96,"die_stands",["coins"],1,51,BI⟩,⟨97,"needed_stands",["coins","rules","needed","word","one","other","first","place"],2,52,Q9⟩,⟨98,"check_asked",["coins","anvils","rules"],3,54,P1⟩,⟨99,"bounds_of",["coins","anvils","rules"],3,55,Bu⟩,⟨100,"dies_in_use",["bounds","stand","place","struck","left"],3,56,BJ⟩,⟨101,"next_fault",["bounds","stand","place"],3,57,BK⟩,⟨115,"follows",["bounds","stand","place"],3,59,xl⟩,⟨116,"followers",["bounds","stand"],2,60,Hm⟩,⟨117,"reached_stands",["bounds","led_to","told","stand","place"],1,61,N4⟩,⟨121,"ways_on",["bounds","ways","stand"],1,63,AY⟩,⟨122,"step_on",["bounds","ways","stand","number","choices","left","at"],4,64,PK⟩,⟨123,"numbered_order",["bounds","ways","number","order","stand","left","place"],3,65,Yi⟩,⟨124,"first_order",["bounds","ways"],1,66,ZA⟩,⟨125,"least_order",["coins","anvils","rules"],3,67,ZC⟩,⟨126,"how_many",["coins","anvils","rules"],3,68,U2⟩,⟨129,"shown_paper",["bounds","stands"],1,70,ZD⟩,⟨132,"paper_of",["coins","anvils","rules"],3,71,RY⟩,⟨136,"check_thing",["coins","word","thing"],3,73,Zz⟩,⟨137,"check_pair",["coins","word","one","other"],4,74,YS⟩,⟨138,"why_of",["coins","anvils","rules","word","one","other","one_ahead","other_ahead","one_order","other_order"],6,75,Xg⟩,⟨139,"told_of",["coins","anvils","rules","word","one","other"],6,76,PL⟩,⟨194,"least_free",["dies","number"],1,78,Hn⟩,⟨3,"_law_open",["_law_script"],1,81,xM⟩,⟨4,"_law_pull",["_law_draw","_law_total_of","_law_cell","_law_got","_law_seed"],2,82,S3⟩,⟨5,"_law_far",["_law_draw","_law_number"],1,83,rq⟩,⟨36,"_law_near",["_law_draw","_law_total_of"],2,84,Cf⟩,⟨6,"_law_num",["_law_found"],1,85,vk⟩,⟨7,"_law_like",["_law_found","_law_due"],2,86,E4⟩,⟨8,"_law_marks_ok",["_law_marks"],1,87,U1⟩,⟨13,"_law_coin_ok",["_law_coin"],1,88,N6⟩,⟨22,"_law_any_coin",["_law_draw","_law_menu","_law_lower","_law_upper","_law_year"],1,89,xj⟩,⟨37,"_law_number_of",["_law_draw","_law_numbers"],2,90,By⟩,⟨195,"_law_box",[],0,91,AJ⟩,⟨196,"_law_box_list",["_law_b"],1,92,Bj⟩,⟨231,"_law_box_rules",["_law_b","_law_places"],1,93,X2⟩,⟨197,"_law_b_put",["_law_b","_law_coin"],2,94,Ce⟩,⟨198,"_law_b_out",["_law_b","_law_number","_law_fact"],2,95,Cd⟩,⟨199,"_law_b_tell",["_law_b","_law_one","_law_other"],3,96,Cv⟩,⟨200,"_law_other_die",["_law_coin","_law_side","_law_die","_law_row"],3,97,GU⟩,⟨201,"_law_b_of",["_law_b","_law_side","_law_die","_law_at"],3,98,Gv⟩,⟨202,"_law_b_one",["_law_b","_law_side","_law_die","_law_other","_law_found","_law_number"],4,99,FF⟩,⟨203,"_law_b_two",["_law_b","_law_side","_law_die","_law_numbers","_law_found","_law_number","_law_fresh"],4,100,FH⟩,⟨204,"_law_b_do",["_law_b","_law_deed","_law_word","_law_old"],2,101,rn⟩,⟨205,"_law_cabinet_do",["_law_cabinet","_law_deed","_law_word"],2,102,J0⟩,⟨207,"_law_box_stands",["_law_cabinet","_law_b","_law_numbers"],2,103,BH⟩,⟨49,"_law_tried",["_law_cabinet","_law_deed"],2,104,Cy⟩,⟨11,"law",["_law_script","_law_draw","_law_cabinet","_law_b","_law_turn","_law_coin","_law_numbers","_law_way","_law_deed"],1,105,rA⟩]
def Ms:List RM:=[⟨113,"Bounds","__init__","Bounds.__init__",["self","coins","anvils","rules"],4,53,0,Z0⟩,⟨208,"Cabinet","__init__","Cabinet.__init__",["self"],1,79,0,U4⟩,⟨209,"Cabinet","check_number","Cabinet.check_number",["self","number"],2,79,1,x6⟩,⟨210,"Cabinet","check_pair","Cabinet.check_pair",["self","one","other"],3,79,2,J5⟩,⟨211,"Cabinet","numbers_of","Cabinet.numbers_of",["self","side","die","field"],3,79,3,R8⟩,⟨212,"Cabinet","give_die","Cabinet.give_die",["self","side","numbers","die","field","number"],4,79,4,X0⟩,⟨213,"Cabinet","fact_rules","Cabinet.fact_rules",["self","places"],1,79,5,u4⟩,⟨214,"Cabinet","put","Cabinet.put",["self","coin"],2,79,6,J8⟩,⟨215,"Cabinet","right","Cabinet.right",["self","number","coin","old"],3,79,7,Ia⟩,⟨216,"Cabinet","out","Cabinet.out",["self","number"],2,79,8,Y9⟩,⟨217,"Cabinet","tell","Cabinet.tell",["self","one","other"],3,79,9,U3⟩,⟨218,"Cabinet","untell","Cabinet.untell",["self","number"],2,79,10,N8⟩,⟨219,"Cabinet","one_die","Cabinet.one_die",["self","side","die","other","numbers"],4,79,11,Ie⟩,⟨220,"Cabinet","two_dies","Cabinet.two_dies",["self","side","die","numbers","all_of_die","number","new_die"],4,79,12,V9⟩,⟨221,"Cabinet","numbers","Cabinet.numbers",["self"],1,79,13,L9⟩,⟨222,"Cabinet","coin","Cabinet.coin",["self","number"],2,79,14,U5⟩,⟨223,"Cabinet","coins","Cabinet.coins",["self"],1,79,15,R6⟩,⟨224,"Cabinet","facts","Cabinet.facts",["self"],1,79,16,R0⟩,⟨225,"Cabinet","order","Cabinet.order",["self","anvils","places","numbers"],2,79,17,aA9⟩,⟨226,"Cabinet","many","Cabinet.many",["self","anvils"],2,79,18,M0⟩,⟨227,"Cabinet","paper","Cabinet.paper",["self","anvils"],2,79,19,aA8⟩,⟨228,"Cabinet","told","Cabinet.told",["self","anvils","one","other","numbers"],4,79,20,ZY⟩,⟨229,"Cabinet","fewest","Cabinet.fewest",["self"],1,79,21,Yh⟩,⟨230,"Cabinet","twin","Cabinet.twin",["self"],1,79,22,ZZ⟩]
def con:List (Str×D):=[("LAST_SPOT",.int 7),("MOST_COINS",.int 9),("LAST_DIE",.int 99),("LAST_YEAR",.int 9999),("SIDES",.tup [(.str "lower"),(.str "upper")]),("MOST_ANVILS",.int 9),("RULE_WORDS",.tup [(.str "coin"),(.str "lower"),(.str "upper")]),("YEAR_FIELD",.int 4)]
def gd:List (Str×List D):=[("DIE_FIELDS",[.tup [.str "lower",.int 0],.tup [.str "upper",.int 2]])]
def exc:List Str:=["BadAnvils","BadCoin","BadList","BadRule","BadSide","Full","NoCoin","NoDie","NoFact","NoOrder","NoPlace","SameOne","TooMany"]
def c0:d6:=⟨[],[],true,F.map λr=>(r.nm,r.id),con,["len","enumerate","list","tuple","isinstance","all","range","int","bool","str","sorted","set","sum","reversed"],exc,gd,[("Bounds",113),("Cabinet",208)],Ms.map λr=>(r.nm,r.cl,r.id),[("size","Bounds"),("full","Bounds"),("room","Bounds"),("worn_by_place","Bounds"),("later_by_place","Bounds"),("lower_dies","Bounds"),("needed_by_place","Bounds"),("held","Cabinet"),("claims","Cabinet"),("last_coin","Cabinet"),("last_fact","Cabinet")],true,true,true⟩
noncomputable abbrev T:Nat->Option aK:=rF F Ms
theorem tx:kl c0 F Ms top Gx:=by
 refine⟨rfl,rfl,by decide +kernel,by decide +kernel,by decide +kernel,by decide +kernel,?_,?_,?_,?_⟩
 all_goals
  repeat first
   |exact BF.nil
   |exact BM.nil
   |exact YF.nil
   |exact YM.nil
   |refine YF.cons (by kernel_rfl) ?_
   |refine YM.cons (by kernel_rfl) ?_
   |refine BF.cons (λ_ _ _ _ _ _=>(by(repeat refine Dw λ_=>?_);exact Dv rfl)) ?_
   |refine BM.cons (λ_ _ _ _ _ _=>(by(repeat refine Dw λ_=>?_);exact Dv rfl)) ?_
inductive qZ:List DictEntry->List (Str×V)->Prop
 |nil:qZ [] []
 |cons {h:Int} {x:Str} {t:Tok} {u:Value} {v:V} {es:List DictEntry} {vs:List (Str×V)} (r:RelV v u) (q:qZ es vs):qZ (⟨h,.str x t,u⟩::es) ((x,v)::vs)
theorem qZ.find{es vs}(x:Str)(h:qZ es vs):A4 (vs.lookup x) (findBy Value.isStrOf es.toArray x):=by
 induction h with
 |nil=>trivial
 |cons r q ih =>
  rename_i h y t u v es vs;unfold findBy at ih ⊢;rw[List.find?_toArray] at ih ⊢;rw[cS,cZ];by_cases e:x=y
  ·rw[show(x==y)=true from by simp[e],show Value.isStrOf x (.str y t)=true from by simp[Value.isStrOf,e]];exact r
  ·rw[show(x==y)=false from by simpa using e,show Value.isStrOf x (.str y t)=false from by simp[Value.isStrOf];exact λz=>e (z.symm)];exact ih
theorem all_mk{l:PySem.W.OpenLaw}{w:World}{K:PySem.W.Frag}{h:Heap}{mg:Str->Option Value}{fa:Addr}{Aw Av wz:Addr}{t0 t1 t2 t3 uy ux t5 uw uv uu t7 oG oE oC oB:Tok}{Aq:Array (Option Value)}{As:Nat}{Ap:Array (Option Value)}{Ar:Nat}{NG:Nat}{lW lV:Int}(X:K.In h)(G:h.Ns mainGlobals mg)(MB:mg "law"=some (.ref fa))(I:km K c0 F Ms top Gx)(e0:PySem.W.nsIn K mainGlobals "LAST_SPOT"=some (some (Value.int 7 t0)))(e1:PySem.W.nsIn K mainGlobals "MOST_COINS"=some (some (Value.int 9 t1)))(e2:PySem.W.nsIn K mainGlobals "LAST_DIE"=some (some (Value.int 99 t2)))(e3:PySem.W.nsIn K mainGlobals "LAST_YEAR"=some (some (Value.int 9999 t3)))(e4:PySem.W.nsIn K mainGlobals "SIDES"=some (some (.ref Aw)))(NZ:K.lookup Aw=some ⟨.type "tuple",none,.seq #[Value.str "lower" uy,Value.str "upper" ux] As,Aq⟩)(e5:PySem.W.nsIn K mainGlobals "MOST_ANVILS"=some (some (Value.int 9 t5)))(e6:PySem.W.nsIn K mainGlobals "RULE_WORDS"=some (some (.ref Av)))(NY:K.lookup Av=some ⟨.type "tuple",none,.seq #[Value.str "coin" uw,Value.str "lower" uv,Value.str "upper" uu] Ar,Ap⟩)(e7:PySem.W.nsIn K mainGlobals "YEAR_FIELD"=some (some (Value.int 4 t7)))(g0:PySem.W.nsIn K mainGlobals "DIE_FIELDS"=some (some (.ref wz)))(NI:K.lookup wz=some ⟨.type "dict",none,.dict #[⟨lW,Value.str "lower" oG,Value.int 0 oE⟩,⟨lV,Value.str "upper" oC,Value.int 2 oB⟩] NG,#[]⟩)(pz:lW=PyData.keyHash w.params "lower")(pv:lV=PyData.keyHash w.params "upper")(ND:(wz==sysModules)=false)
  : ∃fd:FuncData,(∀(s:Shared) (v:Value),BindsTo s fd ⟨[v],[]⟩ [("_law_script",v)])/\∀base:Heap,K.In base->base.Ns mainGlobals mg->fX l.prog w K mg base (gw l.prog w) 80 fa fd ["_law_script"] (om exc K 1 (b0 T 40 11)):=by
 have A:mh w K mg c0 T:=by
  refine OM I tx X G (λx d hx=>?_) (λx kvs hx=>?_)
  ·have hm:=aL hx;simp only[c0,con,List.mem_cons,List.mem_nil_iff,or_false] at hm;rcases hm with z|z|z|z|z|z|z|z
   ·cases z;exact⟨(.int 7),_,bK X G e0,⟨_,rfl⟩,λ_ _=>.int _⟩
   ·cases z;exact⟨(.int 9),_,bK X G e1,⟨_,rfl⟩,λ_ _=>.int _⟩
   ·cases z;exact⟨(.int 99),_,bK X G e2,⟨_,rfl⟩,λ_ _=>.int _⟩
   ·cases z;exact⟨(.int 9999),_,bK X G e3,⟨_,rfl⟩,λ_ _=>.int _⟩
   ·cases z;exact⟨.ref Aw,_,bK X G e4,rfl,λ_ _=>.tup (vs:=[.str "lower",.str "upper"]) (.inr ⟨_,_,_,NZ,rfl,rfl,rfl,(by show 2<=sizeLine;decide),.cons ⟨_,rfl⟩ (.cons ⟨_,rfl⟩ (.nil))⟩) (.cons (.str _) (.cons (.str _) (.nil)))⟩
   ·cases z;exact⟨(.int 9),_,bK X G e5,⟨_,rfl⟩,λ_ _=>.int _⟩
   ·cases z;exact⟨.ref Av,_,bK X G e6,rfl,λ_ _=>.tup (vs:=[.str "coin",.str "lower",.str "upper"]) (.inr ⟨_,_,_,NY,rfl,rfl,rfl,(by show 3<=sizeLine;decide),.cons ⟨_,rfl⟩ (.cons ⟨_,rfl⟩ (.cons ⟨_,rfl⟩ (.nil)))⟩) (.cons (.str _) (.cons (.str _) (.cons (.str _) (.nil))))⟩
   ·cases z;exact⟨(.int 4),_,bK X G e7,⟨_,rfl⟩,λ_ _=>.int _⟩
  ·have hm:=aL hx;simp only[c0,gd,List.mem_cons,List.mem_nil_iff,or_false] at hm;have z:=hm
   ·cases z;have er:qZ [⟨lW,Value.str "lower" oG,Value.int 0 oE⟩,⟨lV,Value.str "upper" oC,Value.int 2 oB⟩] [("lower",.int 0),("upper",.int 2)]:=.cons (v:=.int 0) ⟨_,rfl⟩ (.cons (v:=.int 2) ⟨_,rfl⟩ (.nil));exact⟨wz,_,bK X G g0,⟨_,_,NI,⟨⟨_,_,rfl,pz⟩,⟨⟨_,_,rfl,pv⟩,True.intro⟩⟩,ND,λx=>er.find x⟩,.cons (λ_ _=>.int _) (.cons (λ_ _=>.int _) (.nil))⟩
 obtain⟨f,fd,O,a,t⟩:=Ji I tx _ (aO (i:=70) rfl);cases MB.symm.trans (bK X G a);obtain⟨oc,od,kV,doc,pm,an,fg,ct,kX,rfl,lk,kH⟩:=O.fn.ex;exact⟨_,λs v=>.of_eq rfl,λbase lK ug=>WB lK ug A 40 11 _ _ fa _ rfl O⟩
theorem walk{l:PySem.W.OpenLaw}{q:Program}{loose:List Str}{XP:(Str->Option Value)->Heap->Prop}{YP:World->Heap->Prop}{d:DefRec}{K:Params->PySem.W.Frag}(hn:l.most=some 63)(tU:d.params.defaults=[])(hY:∀(w:World) (h:Heap),YP w h->(K w.params).In h)(F:∀ (w:World) (mg:Str->Option Value) (fa:Addr) (h:Heap),(K w.params).In h->h.Ns mainGlobals mg->mg d.name=some (.ref fa) ->
   ∃ fd:FuncData,(∀ (s:Shared) (u:Value),BindsTo s fd ⟨[u],[]⟩ [("_law_script",u)])/\∀ base:Heap,(K w.params).In base->base.Ns mainGlobals mg->fX l.prog w (K w.params) mg base (gw l.prog w) 80 fa fd ["_law_script"] (om exc (K w.params) 1 (b0 T 40 11))) :
  PySem.W.WalkO q loose XP YP l.row.toRowW d [] (λf vs=>PySem.call f vs) :=
 L2.Rj (n:=63) (k:=80) (x:="_law_script") (CX:=λw=>gw l.prog w) (sp:=λw=>om exc (K w.params) 1 (b0 T 40 11)) hn ∅ tU ⟨rfl,by decide,by decide⟩ hY F (λw H a ns hl hO hS=>Xb hO hS (RU (k:=27) ⟨⟨⟨⟨rfl,rfl⟩,rfl,rfl,⟨rfl,rfl⟩,⟨rfl,rfl⟩,rfl,rfl,rfl,rfl,rfl,rfl,rfl,rfl,rfl,rfl,rfl,rfl,rfl,rfl,rfl,rfl⟩,⟨rfl,rfl,rfl,rfl,rfl,rfl,rfl,rfl,rfl,rfl,rfl,rfl,rfl⟩,rfl,rfl,rfl,rfl,rfl,rfl,rfl,rfl,rfl,rfl,rfl,rfl,rfl⟩,⟨⟨⟨rfl,rfl⟩,rfl,rfl,⟨rfl,rfl⟩,⟨rfl,rfl⟩,rfl,rfl,rfl,rfl,rfl,rfl,rfl,rfl,rfl,rfl,rfl,rfl,rfl,rfl,rfl,rfl⟩,rfl,rfl,rfl⟩,⟨rfl,rfl⟩,⟨rfl,rfl⟩,rfl,rfl,rfl,rfl,rfl,rfl,rfl⟩)) λ_ _ _ _ _ ⟨_,_,_,_,_,_,_,z⟩=>z
end Lk
end _X
open _X
open PySem PySem.W PyProof.Rows
set_option maxRecDepth 100000 in
set_option maxHeartbeats 0 in
theorem PySem.Challenge.cw_trussel_k42_facts_told_holds : PySem.Challenge.rw_trussel_k42_facts_told.Holds := by
 w_on;o_law;k_head;(case hw=>w_witness2)
 k_fill
 refine Lk.walk (l:=PySem.Challenge.rw_trussel_k42_facts_told) rfl rfl (fun w h Y=>PySem.W.kIn_of Y) ?F
 case F =>
  intro w mg fa h KX G hmg
  refine' Lk.all_mk KX G hmg ⟨?zz1,?zz2,?zz3,?zz4,?zz5,?zz6,?zz7⟩ ?_ ?_ ?_ ?_ ?_ ?_ ?_ ?_ ?_ ?_ ?_ ?_ ?_ ?_ ?_
  (case zz1=>repeat' first | (with_reducible show _=_;k_is) | exact M.PF.nil | apply M.PF.cons)
  (case zz2=>repeat' first | (with_reducible show _=_;k_is) | exact M.PM.nil | apply M.PM.cons)
  (case zz3=>repeat' first | (with_reducible show _=_;k_is) | exact M.PC.nil | apply M.PC.cons)
  (case zz4=>repeat' first | (with_reducible show _=_;k_is) | exact M.PA.nil | apply M.PA.cons)
  (case zz5=>repeat' first | (with_reducible show _=_;k_is) | exact M.PB.nil | apply M.PB.cons)
  (case zz6=>repeat' first | (with_reducible show _=_;first | (with_reducible show PySem.W.excIn _ _ _ _=true;k_exc) | k_is) | exact M.PX.nil | apply M.PX.cons)
  (case zz7=>kernel_rfl)
  all_goals try (with_reducible show _=_;k_is)
  all_goals try ((with_reducible show _=_);rfl)
#print axioms PySem.Challenge.cw_trussel_k42_facts_told_holds
