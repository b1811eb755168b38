import PyProof.Rows.All
import Wide.All
import OpenK.AllK
import Wide.FinOn
import Lean
import PyProof.EqAt
import PyProof.EqKinds
import PyProof.TupleCall
import PySem.Challenge.RW_trussel_k58_whole_upper_dies_parted
set_option Elab.async false
set_option linter.all false
set_option maxRecDepth 100000
set_option maxHeartbeats 4000000
set_option genInjectivity false
set_option bootstrap.genMatcherCode false
set_option genSizeOf false
local macro_rules|`(def $i:declId $s:optDeclSig $v:declVal)=>`(noncomputable def $i:declId $s:optDeclSig $v:declVal)
structure PySem.W.Fast:Prop where(tw774674030481880680 tw8143998908341327216 tw2933125806892581096 tw6999817554865575286 tw14288925076169682988 tw8143200300027981112 tw6551942895317598762 tw12988176036271220225 tw5108300983769135436 tw3510345445277178032 tw780053065636748186 tw6098466423490181400 tw14585004966829133529 tw5351785394825023134 tw15399271126801776134 tw14457166989201737142 tw7919163460431970745 tw13498806906366943335 tw5881196644605233788 tw17795484975068327571 tw761891151233687322 tw5123054529899312890 tw6277428499126997307 tw17166676009920421564 tw9184940820087866728 tw13701892796755327925 tw16589445730978735501 tw11523581839367275279 tw2914351314866671786 tw10497094731644064749 tw11337548638457557217 tw15738221645250132590 tw7508986868652818034 tw17056988779767273303 tw9673004490413178520 tw17735247909833305426 tw4812810134104551645 tw819849092575715582 tw7912645770448250798 tw5169526809351140009 tw9213277489153150623 tw10398639402606939420 tw10370211903995612446 tw879813955836215467 tw16677851562150184934 tw5950839150367725713 tw8830161236579893551 tw9151661652197250502 tw1508652624795151824 tw5013229748355161711 tw10592775433089080213 tw7850808877045839882 tw2290339176033621517 tw16052005840693851552 tw11000873971937058509 tw17121943822578786363 tw11870460852792120465 tw1215345756321439259 tw13010878465957590896 tw17681106844254992366 tw3657945792062133373 tw4524995614359186433 tw13519586864259497796 tw10573298022273840118 tw16113456440399885475 tw12702648009814685569 tw11526765270196403653 tw12249814762673295015 tw8324325298530025140 tw1787239443370771960 tw5461585736338767098 tw18441613346007329180 tw7045981248421408846 tw10671589580219400024 tw3792326380238338392 tw1335825209656286267 tw5077815134338030817 tw2375656223198318153 tw4128582911398404930 tw15166556183641478803 tw6504183124699902559 tw13667351605768803940 tw820094817079558858 tw10643973656392513127 tw17032901870830815829 tw93987519089631142 tw9752875981017515277 tw2337114100380315483 tw17432372919007819407 tw1856219552534003730 tw236944415144367298 tw4440281320759645645 tw16218304895569248843 tw4422410869581524891 tw1915921685318480081 tw15712036083722815078 tw4632779446992610994 tw6629898094852328837 tw17548116267066483220 tw14834206934685423666 tw8300838413982930780 tw15697756088804150199 tw5121118804348063983 tw18377062532129930926 tw4580535280304389214 tw10899739060269195437 tw17466099634287228815 tw17382237286084440416 tw18167964174558090254 tw14272153702325886943 tw2833984703724673074 tw15380839144326995090 tw14797055455843278799 tw12471819122958813638 tw2443968826949461130 tw1597622332052275440 tw1707884676805538189 tw2859801287460947290 tw5960332821412742176 tw541417249957287790 tw688349655807332211 tw12260185858995928231 tw1009198026456584504 tw12776035874674047216 tw3954656095183712470 tw16929789707095692320 tw9788965973475037830 tw2030148577279228644 tw7427773344429355483 tw7867667708539115714 tw13228218330878458131 tw4867145512927135305 tw5611581987848434502 tw9106685538153122110 tw9755560955783514532 tw4204850009230892303 tw11462393799348433872 tw13641736298038266438 tw15552260345664886599 tw14198602808314952799 tw1517972576614463098 tw17598889414152118214 tw3906406347193983665 tw7761363910828029188 tw14382364572355664550 tw2455631554909277153 tw8542846202208014812 tw13540299613590253867 tw6190795638965933155 tw7101619231281803767 tw11577380560081142991 tw1067059777829144611 tw15224756896928536781 tw10128324187035483151 tw18139779151830694957 tw3718449607234863748 tw7980406051817046969 tw7366817413946731985 tw105382655677059350 tw15820304552590908485 tw6450830704578807264 tw4412172847850825970 tw17235704837652648224 tw18026593382097557099 tw7998097182213188958 tw5119803766308812640 tw7408932723404780841 tw10983090473043698301 tw17503957646077255383 tw10195724194381982021 tw17202180593465461070 tw6605476333819532305 tw2118185009980422180 tw12135753773791527905 tw8175269392758126767 tw13918072243529826041 tw15710949157192102628 tw7069439617989849404 tw8128004914465467834 tw17007944340382252787 tw4628838805045186202 tw15821653749124947462 tw7637512283321741573 tw10867550613410964530 tw299577095737787003 tw9003279915209592648 tw2398287369965716487 tw6501439091189428971 tw8706174347760419250 tw6704374175427427989 tw14966156433957781089 tw506017635510427150 tw14422104315987296041 tw10710358043614493554 tw9900504591958019605 tw1553189995034217950 tw17082251605478802678 tw9817049118441542702 tw8555358802733199066 tw1337996668214235823 tw13078874638291425189 tw11621588565701303482 tw984489748458395192 tw6321863690392501512 tw6031372800246183870 tw8730112817811126923 tw12560873282280800815 tw15889618396160655085 tw11005881420753325338 tw2364726156381034306 tw11077740449869991851 tw12832915592971839156 tw16530459593087715503 tw7930282881089921395 tw6284965115972188061 tw14770996412824100540 tw779889060518193629 tw14538146660393685545 tw14226301246479969510 tw9502507748619993650 tw3833435596277907643 tw15445332934028846603 tw16436770513274391151 tw13206128574602874841 tw13676658574570906640 tw13180169506698422569 tw10665097442224494876 tw3901319588402837011 tw17625076572922647181 tw13551265977807585966 tw8308872359869813927 tw17695715371056776663 tw12481086292221948653 tw10246631507849274532 tw7247353858189161000 tw17574003859001138121 tw1532040261285764050 tw121088019341673306 tw6358729061446070786 tw14349946622950701022 tw3294531268067445859 tw13200192660972931999 tw18384196491789727353 tw9806435623796665387 tw3933651991452149889 tw13064538348026900550 tw13086163627257498321 tw4748596793599137782 tw2153795703843901253 tw16174419922192868444 tw12751973814911033789 tw15691540160290380273 tw11130011744455842696 tw16141808974735359449 tw5217220570916505442 tw716053360114508214 tw13193109608338563506 tw2553990533663159614 tw8295119298765120864 tw2976696629206636552 tw14683439218523762010 tw5805487934245606846 tw2260579495784381708 tw9972772961363888493 tw2598175783555662152 tw11162178087906998642 tw10250834307582658788 tw1794359133415131558 tw4162206101242773384 tw311034846066911706 tw15617140628619740145 tw3496200382898691215 tw8716332465660203137 tw10886019724443240945 tw13488941499188212118 tw6707778369805962013 tw1413402511294545835 tw15457984086656553351 tw12009058290379399021 tw5443526486638137950 tw3771444507562375168 tw7976842833843638104 tw1668653479723567520 tw5374093595163672692 tw12941426377652066313 tw9509572611933843489 tw9987520819530901319 tw2478922638478697974 tw3405965325226991193 tw14570312379341566887 tw16997372690509842444 tw10995128135995251521 tw33492448325993735 tw6619560354937781089 tw1666494924910592408 tw13256540450638210067 tw5653579739237816983 tw3402237698856679207 tw836266819765181369 tw9092050011694823880 tw16675384318057616398 tw13265851581420301745 tw4347030383708163042 tw848380913039393554 tw8395578176686031206 tw7055212044401745946 tw4524079662093642955 tw10217135683537043233 tw13214875187158280247 tw2352871636190809361 tw5111937865433441393 tw6813531847824265191 tw10801666291667509056 tw11239480448612981354 tw4574249686441828654 tw17308866924055718942 tw9902510577870112512 tw13094392084384160777 tw5916345954184374502 tw16794332097066985599 tw7079839070235649381 tw15239371677529356104 tw2109890444320430372 tw3401424157347023369 tw5445582272405801912 tw8791358600699860034 tw1371694268419162022 tw4540720327602215435 tw13307432045630396343 tw17028955142964319499 tw14539088417901230199 tw13811682122108886821 tw12663321543188244580 tw15979396820107062470 tw11979522307219549626 tw13393127831495426713 tw12413044607217435728 tw3587048199706094234 tw13696233466874544413 tw15909961573333429969 tw17203939407995512858 tw11026827755638939542 tw8351940079128058518 tw9716132050666658823 tw13885899388159474504 tw10838729380066583356 tw6187842544031721669 tw14556152195572766885 tw17287562162815637208 tw11365383981164957670 tw8659102588083497903 tw13720480200683329115 tw985755806064180761 tw16125749876215588590 tw11466448223758727242 tw15487630734414013687 tw16137172417360509616 tw6252316349615238381 tw11517995211355066710 tw3495321957290212378 tw9018087681810135845 tw3608954740310314905 tw16480154135381058729 tw3544513675904376646 tw13862729517496484385 tw6205069404997260375 tw11046601269445349579 tw5518278133315782346 tw4372065771475412806 tw5538084980048957331 tw9285369976031431246 tw13458564173465295640 tw16703833754399734 tw4440284811317492511 tw11873709502742004170 tw526492177073744102 tw14323285169313895393 tw2287151627679058432 tw11000491557463314652 tw3019143065721915997 tw3790482303163675671 tw3006276520154520350 tw15278599791239348415 tw11521762692120760489 tw13267890887931894293 tw10240377503914855903 tw15093211826212324715 tw6243267360280314765 tw16147173043941758939 tw14092871832560931624 tw10498351396065943854 tw17035519565506504463 tw6508461301861116272 tw9561302162022727897 tw1181111834165273091 tw7230809485479911662 tw1968338260082780943 tw9333950344324826628 tw6439133592491800454 tw11772996732843931911 tw5128435773746833948 tw4855811393659314011 tw11029580801217110490 tw10381235289180630162 tw3030626186290650299 tw17203087476956398589 tw14773484638965289618 tw9931193928679421254 tw14625866409075333683 tw2415353132573662444 tw6437604078348835936 tw12248981898596110409 tw89959855463432700 tw8886740597598230405 tw1020471209314652635 tw14719724459198101765 tw14697719975721397350 tw9938270641434732382 tw1344994623097749065 tw4984998780655237150 tw2035442188271067481 tw12987534607768985591 tw11886254401752477549 tw11936286756646521448 tw6540445590988631221 tw12342814463262201751 tw2390451073782136692 tw12304621584391711667 tw6358948513282425733 tw3633144656134077994 tw5243610309506567465 tw8866431482346087218 tw15474249834372868021 tw8302923877487338489 tw4968267280151450260 tw12288589632665520950 tw1598992774868458679 tw18282121787072315418 tw18331938773584042212 tw549579200858119487 tw10672144831506029116 tw12819795894953704087 tw13046562514784409761 tw15132592293009261457 tw9470701103317484673 tw15417236356391677237 tw4512444740806925506 tw5546862711067403414 tw10956237411498603174 tw1300655465386969424 tw667299370615453221 tw13855769893464379819 tw8770087397130573423 tw7150850485912644035 tw5328447062839469021 tw14621121207076582557 tw9076570523791630665 tw14604975508588457083 tw353515040897092169 tw7097900640447366144 tw14082459371581828431 tw9843771636642072828 tw5027674625601663989 tw8172887549949860837 tw6348839913189897547 tw5019639288630636630 tw5843203930468022737 tw9120427402286146588 tw10470173253536068372 tw6244652640176757061 tw14165508859252747929 tw9635175210276430563 tw13055421391509928556 tw10222528702884213217 tw6138934690755869611 tw1538399843691575102 tw16749268348952610645 tw1364512308115511640 tw1296179076303772347 tw7638329562249034280 tw9669072848310984140 tw17264575698670837953 tw3412404518117572767 tw8975567014539487282 tw7180649947345457364 tw18362229021511276119 tw3617806303879134284 tw4347291714116642015 tw281190050833481908 tw13798628092757569734 tw4499429643655377471 tw9855326337779343195 tw12260215922490607169 tw1420117900190594086 tw6680026224712171584 tw7552991663338974488 tw7309146046002844169 tw7993865005895983176 tw8668697337319561070 tw9349193792361469485 tw10625306757167849145 tw18044193617613818052 tw10174120540103322093 tw4601756669540252369 tw14633902439285331466 tw16252506301856146903 tw4865979743817925424 tw17152679031335575195 tw14391901342922558050 tw10089917656375327619 tw6238445305586634008 tw10959767866875603859 tw1948026181502491966 tw3615003732915837397 tw2393921409483372234 tw18438768115870654508 tw11699704787731360461 tw15766500616930621626 tw7406439073303262753 tw11879971633682663228 tw14916335629205710331 tw4993159728703905420 tw16756888201052336931 tw10193702844117849790 tw16123070620679062441 tw6995596697105383314 tw12460515711111187321 tw18421839857869927553 tw8529420556061032770 tw6406670455092926014 tw12960620967119308133 tw4852695357554054873 tw1790682081474254328 tw13568375018083509 tw12896915711952456456 tw12638909611980321202 tw12994628017669806865 tw757966583946058296 tw15200070161298208792 tw4096525535398425423 tw14752472042550932974 tw12916898660792398138 tw14554501101331240445 tw12231496036988463622 tw6713144468192704772 tw6619860743614029934 tw12758636806666907526 tw5827126574934868247 tw12889756657483379323 tw12061303830978788619 tw4230337670911055575 tw5049206716371974448 tw13822698876413969736 tw1952126681879231312 tw15424754947860831041 tw10986010621912630706 tw4299574408849649163 tw8875255097066096369 tw12660362865827423035 tw1385411836741227196 tw10795355607600735235 tw5516990455207354891 tw10268438646915194777 tw7347464515886278769 tw14314333507516657579 tw11764971876998561263 tw2218466305358541352 tw16352543553183215974 tw11308192834282728367 tw13121895470800123631 tw18108059985612097672 tw18391881768558499751 tw11932178609959600077 tw17920115763622348982 tw6528358203454115090 tw6356577433267030561 tw2350132001649889191 tw17399444787767454793 tw15909992040567368653 tw13692504194455436410 tw4111906306176125513 tw7388864080365266333 tw1522524176225158249 tw11461561090632884625 tw8403424291518374009 tw5589870449938933604 tw9928358969059472409 tw1067064302723215169 tw12937784397947222500 tw16407241941024832771 tw17859510635441545380 tw17009794911754493844 tw10510871903913074149 tw1253613127865568973 tw9029260694727541499 tw502038659962359767 tw1638486527500482161 tw13904463183518838666 tw9763087290114899848 tw2089516430421811382 tw13212785619371299558 tw1193297045258391878 tw5168214823260541380 tw1808899760540808141 tw4968855881024576898 tw10440172554269272200 tw17386308588542277756 tw10909990151484556009 tw9246913374632771271 tw12698353675957627874 tw4862465527980760673 tw13304371564959317416 tw2463879696626803250 tw11168429761388251269 tw5166858794742050900 tw6196796079183957198 tw12685450726401267062 tw2425431640055269970 tw12624092299192872430 tw11680463323872685736 tw17619814253117742591 tw12664897735204232043 tw18101808257670417353 tw13407534444868480412 tw10095489133589234374 tw10795352159403316679 tw5492036378573912204 tw2516005595968031477 tw13244082710252620961 tw15003207494331435056 tw2909862730835634046 tw1225764977050624967 tw11089688636490414339 tw2324760713104616519 tw8070910987218949962 tw10097422687897643455 tw2350197452966522741 tw9959681245536935383 tw7632667652069102261 tw11770394737868258201 tw14139941378957390928 tw4669393348660464368 tw13618458453400305788 tw9691649081155037799 tw566282740123922888 tw2366792447949554208 tw6262694707043654931 tw1942514998309705874 tw17158526501520005600 tw62108952452940458 tw11529581483808602818 tw1568274465735067870 tw16283680796958561191 tw18193898579550163699 tw15779135585327266768 tw4794894522931466936 tw17654400710137939393 tw10212564760532236306 tw5715400665556113371 tw15003116970633190683 tw4238289084739396866 tw16046117302529956800 tw10716194795553902360 tw10026182797487399052 tw17241409655062145478 tw8402853732498902851 tw683697123086818595 tw5848110459834842140 tw5691154633376056283 tw6399754789761146227 tw670741123224082931 tw1795233499007144139 tw14715653570562952919 tw9108729663542503036 tw6031975843131357248 tw5045147717242442112 tw11599424323487708406 tw14331974452523896680 tw8090714308796682861 tw891613995742549176 tw4056126753927131337 tw4857447840714746564 tw5164746457769476144 tw10518650330838962694 tw16790629936751229983 tw120201462594299352 tw10681566498331762601 tw11777822073202741330 tw11873687829105765773 tw12400411796068847476 tw12495201495933709746 tw3310993559282282312 tw12532009391148253176 tw4884093205248025997 tw2202210693970449003 tw14093961792285939142 tw2600760427667005440 tw5732207799412502892 tw13308642243482750275 tw16565005253047390731 tw7706497045974759393 tw4068455747115882077 tw11235292503998857672 tw17956123394868691836 tw2890820410580486927 tw14036647655252702532 tw16090183851236894351 tw4142591909428049809 tw14564419254891315183 tw5815499813773134120 tw18425462047800410698 tw1135718295377459254 tw2990988469738096660 tw5141418761553726776 tw5080105750513369607 tw12814571520538660021 tw6967909199429986515 tw16110791338671303867 tw5999438485168712023 tw1405595791130130224 tw15828241199793573699 tw16327166620625354487 tw4301635642524877344 tw14794939133025931504 tw3908589191077593164 tw11779902397094413317 tw14334180626365532052 tw6604922162501789276 tw1737866207867179447 tw12108624103858499909 tw3666470024141591806 tw13099393970077106011 tw8566038180304561924 tw1180260585363701655 tw2664652705199411602 tw11237025534327868300 tw1605795203897696514 tw16996677966624428969:True)
namespace _X
local macro_rules|`(#[$xs,*])=>`(⟨$xs,*⟩)
open Lean in
@[inline]def pw_:Nat->Term->MacroM (TSyntax `rcasesPat)
 |0,_=>Macro.throwUnsupported
 |n+1,t=>do match t with
  |`(#[$xs,*])=>do let ys<-xs.getElems.mapM (pw_ n);`(rcasesPat|⟨$[$ys:rcasesPat],*⟩)
  |`(⟨$xs,*⟩)=>do let ys<-xs.getElems.mapM (pw_ n);`(rcasesPat|⟨$[$ys:rcasesPat],*⟩)
  |`(_)=>`(rcasesPat|_)
  |`($i:ident)=>`(rcasesPat|$i:ident)
  |_=>Macro.throwUnsupported
local macro_rules|`(tactic|let $p:term:=$e)=>do let q<-pw_ 9 p;`(tactic|obtain $q:rcasesPat:=$e)
local macro_rules|`(#[])=>`(by decide +kernel)
local macro_rules|`(#[_])=>`(by simp)
local macro_rules|`($s⁻¹)=>`(($s).heap.objs.size)
local macro_rules|`(tactic|show $t)=>`(tactic|(walk_at"";refine $t))
local macro_rules|`(abbrev $i:declId $s:optDeclSig $v:declVal)=>`(noncomputable def $i:declId $s:optDeclSig $v:declVal)
local macro_rules|`(def $i:declId $[$b:bracketedBinder]* :$t $v:declVal)=>`(theorem $i:declId $[$b:bracketedBinder]* :$t $v:declVal)
local macro_rules|`(tactic|left)=>`(tactic|walk_at"")
local macro_rules|`(())=>`(by omega)
local macro_rules|`(∅)=>`(by decide)
local macro_rules|`(tactic|omega)=>`(tactic|lia)
def AJ:=@PySem.wpAny_runValue
def AK:=@PySem.entryFor_alias
def AL:=@Prod.mk.inj
def AM:=@Nat.pow_le_pow_right
def AN:=@List.mem_erase_of_ne
def AO:=@List.getElem_toArray
def AQ:=@List.Pairwise.filter
def AR:=@PySem.Calls.Name_function_global
def GY:=@PySem.wpAny_binaryOp_repeat_ref
def GZ:=@PySem.evalArgs_none
def Ha:=@PySem.W.hideAll_get
def Hb:=@List.mergeSort_perm
def Hc:=@List.map_eq_nil_iff
def Pa:=@PySem.wpAny_newList
def Pb:=@PySem.W.of_hideAll
def Pc:=@PySem.W.kitx_tuple
def Pd:=@Nat.not_lt
def Pe:=@List.map_inj_right
def Pf:=@List.find?_eq_none
def aB:=@PySem.Heap.get?_push_size
def aC:=@PySem.Heap.lt_size
def aD:=@Nat.le_trans
def aE:=@decide_eq_true
def aF:=@List.mem_cons
def aG:=@Option.some.inj
def aH:=@if_pos
def aI:=@List.getElem?_set_ne
def aJ:=@List.mem_of_getElem?
def aK:=@List.getElem?_append_left
def aM:=@of_decide_eq_true
def aN:=@Nat.ne_of_lt
def aO:=@PySem.mem_of_lookup
def aP:=@Bool.and_eq_true
def aQ:=@List.size_toArray
def aS:=@List.mem_filter
def aX:=@List.map_map
def aY:=@PySem.wpAny_mono
def aZ:=@Ne.symm
def aa:=@Option.map_eq_some_iff
def ae:=@PySem.wpAny_bind
def ag:=@Option.bind_eq_some_iff
def ah:=@List.getElem?_map
def ai:=@List.length_map
def aj:=@PySem.Heap.get?_push_of_some
def ak:=@PySem.wpAny_pure
def ao:=@List.mem_map
def au:=@List.getElem?_eq_getElem
def av:=@Nat.le_refl
def aw:=@List.getElem?_eq_some_iff
def ax:=@decide_eq_false
def ay:=@Nat.lt_of_lt_of_le
def az:=@if_neg
def bB:=@PySem.wpAny_holding
def bC:=@PySem.Obj.data_mapFields
def bD:=@List.mem_append
def bE:=@List.map_append
def bG:=@List.length_take
def bH:=@List.eq_nil_of_length_eq_zero
def bI:=@Nat.ne_of_gt
def bL:=@Nat.lt_irrefl
def bO:=@Nat.zero_le
def bP:=@List.map_congr_left
def bQ:=@List.mem_append_right
def bR:=@PyProof.Rows.callWith_type1
def bS:=@PySem.wpAny_call_entry
def bU:=@PyProof.Rows.slot_tuple_getitem
def bW:=@PySem.wpAny_newObj_type
def bX:=@List.mem_cons_of_mem
def bY:=@Bool.false_ne_true
def bZ:=@PySem.W.mg_of
def ba:=@List.mem_singleton
def bc:=@PySem.Heap.get?_update_self
def bf:=@Bool.eq_iff_iff
def bg:=@List.getElem?_set_self
def bh:=@List.take_succ
def bj:=@List.mem_range
def bo:=@Bool.eq_false_iff
def bq:=@List.getElem?_eq_none
def bt:=@List.all_eq_true
def bu:=@List.take_length
def bw:=@List.any_eq_true
def cA:=@List.filter_append
def cF:=@List.pairwise_map
def cG:=@PySem.wpAny_truthy_bool
def cH:=@PySem.wpAny_setState_of
def cI:=@List.mem_iff_getElem?
def cJ:=@List.length_filter_le
def cK:=@decide_eq_true_iff
def cO:=@PySem.wpAny_Call_Name_kw
def cP:=@List.nodup_cons
def cR:=@Nat.lt_trans
def cT:=@congrArg
def cU:=@List.pairwise_cons
def cV:=@List.getElem?_append_right
def cZ:=@PySem.wpAny_standAt
def cb:=@PySem.W.kia_one
def cj:=@List.getElem_mem
def cw:=@PySem.Heap.get?_update_other
def cx:=@List.map_cons
def cy:=@PySem.Heap.SameBut.update
def dA:=@List.filter_sublist
def dB:=@PySem.wpAny_typeOf
def dC:=@List.lookup_cons
def dD:=@List.getElem?_replicate
def dE:=@List.filter_cons
def dF:=@PySem.wpAny_comprehension_free
def dG:=@PySem.call_meets
def dH:=@PySem.W.cellsFrom_some
def dI:=@List.length_append
def dJ:=@PySem.wpAny_setField
def dM:=@PySem.Heap.size_push
def dN:=@Bool.or_eq_true
def dU:=@List.take_sublist
def dW:=@List.flatMap_cons
def dX:=@Int.toNat_natCast
def dZ:=@PySem.wpAny_passesOwn
def da:=@List.pairwise_iff_getElem
def dc:=@List.getElem?_eq_none_iff
def df:=@List.find?_cons
def dg:=@decide_eq_true_eq
def dh:=@Sum.inl.inj
def dk:=@Nat.le_of_lt
def dn:=@List.nodup_append
def dq:=@List.mem_iff_getElem
def du:=@PySem.Obj.isFreed_of_fields
def dy:=@PySem.codeAny_builtin
def eA:=@List.drop_eq_getElem_cons
def eE:=@beq_eq_false_iff_ne
def eF:=@List.getElem_of_mem
def eG:=@List.getElem?_range
def eI:=@List.filterMap_cons
def eJ:=@Array.length_toList
def eN:=@PySem.wpAny_of_eq
def eO:=@PySem.intKind_is
def eP:=@Option.isSome_iff_exists
def eQ:=@List.getElem?_take_of_lt
def eV:=@List.filter_map
def eX:=@beq_iff_eq
def eY:=@Int.emod_lt_of_pos
def eh:=@List.mem_append_left
def et:=@List.isEmpty_iff
def fB:=@PySem.wpAny_callSpecial?_slot
def fC:=@Array.getElem_eq_getD
def fF:=@decide_eq_decide
def fK:=@List.pairwise_append
def fQ:=@List.append_nil
def fR:=@Int.emod_nonneg
def fU:=@List.replicate_succ
def fV:=@List.filter_eq_self
def fc:=@PySem.F.plainAttrs_list
def fm:=@Nat.lt_trichotomy
def gI:=@Option.isSome_map
def gJ:=@List.reverse_cons
def gK:=@List.filter_congr
def gL:=@List.append_assoc
def gM:=@List.any_eq_false
def gO:=@PySem.codeAny_mono
def gP:=@PySem.F.args_tuple_add_2
def gQ:=@List.any_cons
def gR:=@List.all_cons
def gS:=@Bool.true_and
def gf:=@PySem.wpAny_rule
def gg:=@PySem.wpAny_isInstance
def gh:=@List.set_set
def gn:=@PySem.plainId_quiet
def gp:=@Nat.one_le_two_pow
def gw:=@Nat.lt_of_le_of_lt
def hZ:=@PySem.tupleKind_room_in1
def iA:=@Int.zero_add
def iB:=@PySem.Calls.call_function_entry
def iJ:=@PySem.wpAny_pyIter_list
def iK:=@Nat.not_lt_zero
def iL:=@List.range_succ
def iP:=@Nat.eq_of_beq_eq_true
def iQ:=@List.take_append_drop
def iR:=@List.Pairwise.sublist
def iS:=@Array.getElem?_toList
def ia:=@PySem.F.entry_tuple_add
def iw:=@PySem.F.slot_tuple_add
def iy:=@Nat.lt_or_ge
def iz:=@List.filter_eq_nil_iff
def jA:=@PySem.W.plainGet_of
def jB:=@PySem.W.callWith_K0
def jC:=@PyProof.Rows.F.entry_set_update_loop
def jD:=@PySem.Calls.callWith_builtin
def jP:=@PySem.wpAny_updateSeq
def jQ:=@PySem.wpAny_execs_nil
def jR:=@PySem.F.slot_dict_itemiterator_iter
def jS:=@PySem.F.slot_int_rmul
def jV:=@PySem.W.callWith_K
def jW:=@List.mem_filterMap
def jX:=@List.mem_cons_self
def jf:=@PySem.noFill_tuple_add
def jg:=@Nat.le_succ
def jh:=@List.map_id
def kA:=@Nat.le_succ_of_le
def kB:=@List.getElem_take
def kE:=@List.ext_getElem?
def kF:=@PySem.Calls.evalArgs_plain
def kG:=@Bool.not_eq_true'
def kY:=@List.eraseIdx_eq_take_drop_succ
def km:=@List.findIdx?_eq_some_iff_getElem
def ko:=@PySem.wpAny_field
def kq:=@PySem.sizeLine_eq
def ku:=@PySem.isSubtype_type
def kz:=@Nat.lt_succ_of_lt
def lG:=@Nat.lt_succ_self
def lH:=@List.nodup_range
def lI:=@List.mem_reverse
def lJ:=@List.length_drop
def lK:=@List.getElem_inj
def lV:=@PySem.seq_tuple_add
def lW:=@PySem.Paired.length
def mB:=@PySem.typeIs_int
def mD:=@List.of_mem_zip
def mE:=@PySem.F.args_tuple_add_2
def oJ:=@PySem.wpAny_pyIter_slot
def oK:=@PySem.wpAny_assign_Name
def oN:=@Option.ne_none_iff_exists'
def oO:=@PySem.Obj.cls_mapFields
def oP:=@List.length_eraseIdx_of_lt
def oQ:=@PySem.F.entry_tuple_add
def oR:=@Bool.false_and
def pZ:=@Classical.byContradiction
def qa:=@Array.getElem?_eq_getElem
def rj:=@PySem.wpAny_askSetting
def rm:=@PySem.F.slot_tuple_add
def tH:=@decide_eq_false_iff_not
def tI:=@PySem.F.slot_dict_items
def tJ:=@PySem.F.plainAttrs_dict
def tK:=@PyProof.Rows.boot_tuple
def tL:=@List.pairwise_mergeSort
def tM:=@List.filter_cons_of_pos
def tN:=@List.filter_cons_of_neg
def vb:=@PySem.codeAny_of_tree
def vc:=@PyProof.Rows.boot_list
def vd:=@Nat.mul_comm
def ve:=@List.take_of_length_le
def vf:=@List.pairwise_lt_range
def vg:=@List.any_map
def vh:=@Array.getElem?_eq_none
def yk:=@PySem.W.methodCall_KW
def ym:=@PySem.F.type_list_pop
def yn:=@PySem.F.slot_list_pop
def yo:=@PySem.F.slot_dict_pop
def yp:=@PyProof.Rows.boot_int
def yq:=@List.length_singleton
def yt:=@List.length_replicate
namespace L2
open PySem PySem.Spec PyProof.Rows
variable{xs vs:List V}{us:List Value}{H H':Hp}{a b f C dx:Addr}{o:HO}{u:Value}{P:Program}{w:World}{h h' base:Heap}{α:Type}{x m:Str}{e c tg:Expr}{X:Cx}{pi:List (Addr×Obj)}{Z:St}{s:Shared}{t' i k:Nat}{ch fp:List Addr}{N ps:List Str}{M:Model}{A:Around}{E Q:Value->Shared->Prop}{v:V}{t:TA}{ta tb te:TE}{pos pos' p:Pos}{K:PySem.W.Frag}{es:List Expr}{op:CmpOp}{body:List Stmt}{r:R2}{fd:FuncData}{CX:nH}{sp:Sp}
noncomputable abbrev Key:=Sum Int Str
abbrev qU:Key->Value->Bool
 |.inl k,v=>Value.isInt k v
 |.inr x,v=>Value.isStrOf x v
abbrev b89(w:World):Key->Int
 |.inl k=>hashInt k
 |.inr x=>hashStr w x
def u2:∀{k:Key} {v:Value},qU k v=true->(∃i t,k=Sum.inl i/\v=Value.int i t)\/(∃x t,k=Sum.inr x/\v=Value.str x t)
 |.inl i,v,h=>by
  let#[t,e]:=Value.isInt_shape (k:=i) (v:=v) h;exact .inl #[i,t,rfl,e]
 |.inr x,v,h=>by
  let#[t,e]:=Value.isStrOf_shape (x:=x) (v:=v) h;exact .inr #[x,t,rfl,e]
def WV(i:Int)(t:Tok):qU (.inl i) (.int i t)=true:=by simp[qU,Value.isInt]
def WW(x:Str)(t:Tok):qU (.inr x) (.str x t)=true:=by simp[qU,Value.isStrOf]
def YY(a b:Int):decide ((Sum.inl a:Key)=Sum.inl b)=(a==b):=by
 by_cases e:a=b
 ·subst e;simp
 ·have h:¬(Sum.inl a:Key)=Sum.inl b:=λq=>e (dh q);rw[ax h];exact(eE.mpr e).symm
def Za(a b:Str):decide ((Sum.inr a:Key)=Sum.inr b)=decide (a=b):=by
 simp
def YZ(a:Int)(b:Str):decide ((Sum.inl a:Key)=Sum.inr b)=false:=ax (λq=>nomatch q)
def Y'(a:Str)(b:Int):decide ((Sum.inr a:Key)=Sum.inl b)=false:=ax (λq=>nomatch q)
abbrev m4(prog:Program)(w:World):PySem.KeyKind prog w Key where
 is:=qU
 hash:=b89 w
 inj:=λv a b ha hb=>by
  rcases u2 ha with⟨i,t,rfl,rfl⟩|⟨x,t,rfl,rfl⟩
  ·rcases u2 hb with⟨j,u,rfl,e⟩|⟨y,u,rfl,e⟩
   ·injection e with e1 _;rw[e1]
   ·exact nomatch e
  ·rcases u2 hb with⟨j,u,rfl,e⟩|⟨y,u,rfl,e⟩
   ·exact nomatch e
   ·injection e with e1 _;rw[e1]
 byValue:=λk v h=>by
  rcases u2 h with⟨i,t,rfl,rfl⟩|⟨x,t,rfl,rfl⟩<;>rfl
 pyHash:=λhv h=>by
  rcases u2 hv with⟨i,t,rfl,rfl⟩|⟨x,t,rfl,rfl⟩
  ·exact wpAny_pyHash_int h
  ·exact wpAny_pyHash_str h
 eqBool:=λhu hv h=>by
  rcases u2 hu with⟨i,t,rfl,rfl⟩|⟨x,t,rfl,rfl⟩
  ·rcases u2 hv with⟨j,u,rfl,rfl⟩|⟨y,u,rfl,rfl⟩
   ·rw[YY] at h;exact wpAny_eqBool_int h
   ·rw[YZ] at h;exact SeqAt.EqAt.int_str i t y u _ _ _ _ h
  ·rcases u2 hv with⟨j,u,rfl,rfl⟩|⟨y,u,rfl,rfl⟩
   ·rw[Y'] at h;exact SeqAt.EqAt.str_int x t j u _ _ _ _ h
   ·rw[Za] at h;exact wpAny_eqBool_str h
 «strs»:=λk x t v h=>by
  rcases u2 h with⟨i,u,rfl,e⟩|⟨y,u,rfl,e⟩
  ·exact nomatch e
  ·injection e with e1 _;subst e1;cases v<;>rfl
def Ld(prog:Program)(w:World)(k:Key)(v:Value):(m4 prog w).is k v=qU k v:=rfl
def aS3(prog:Program)(w:World)(i:Int)(t:Tok):(m4 prog w).is (.inl i) (.int i t)=true:=WV i t
def aS2(prog:Program)(w:World)(x:Str)(t:Tok):(m4 prog w).is (.inr x) (.str x t)=true:=WW x t
set_option genInjectivity true in
inductive V where
 |br|bl (b:Bool)|int (i:Int)|str (x:Str)|lB (b:Array UInt8)|sH (b:UInt64)|ref (a:Addr)|ty (n:String)
 deriving DecidableEq
abbrev RelV:V->Value->Prop
 |.br,u=>u=Value.none
 |.bl b,u=>u=Value.bool b
 |.int i,u=>∃t,u=Value.int i t
 |.str x,u=>∃t,u=Value.str x t
 |.lB b,u=>∃t,u=Value.bytes b t
 |.sH b,u=>∃t,u=Value.float b t
 |.ref a,u=>u=Value.ref a
 |.ty n,u=>u=Value.type n
noncomputable abbrev Vals:List V->List Value->Prop:=Paired RelV
def Vals.length{xs}{us}(r:Vals xs us):xs.length=us.length:=lW r
def Vals.get:∀{xs:List V} {us:List Value} {i:Nat} {x:V},Vals xs us->xs[i]?=some x->∃u,us[i]?=some u/\RelV x u
 |_,_,_,_,.nil,e=>by simp at e
 |_,_,0,_,.cons r _,e=>by simp at e;subst e;exact#[_,rfl,r]
 |_,_,i+1,x,.cons _ t,e=>by
  let#[u,h1,h2]:=Vals.get (i:=i) (x:=x) t (by simpa using e);exact#[u,by simpa using h1,h2]
def Vals.set{x}{u}(r:RelV x u):∀{xs:List V} {us:List Value} (i:Nat),Vals xs us->Vals (xs.set i x) (us.set i u)
 |_,_,_,.nil=>.nil
 |_,_,0,.cons _ t=>.cons r t
 |_,_,i+1,.cons q t=>.cons q (Vals.set r i t)
def Vals.append{ys}{ws}(h:Vals xs us)(s:Vals ys ws):Vals (xs++ys) (us++ws):=by
 induction h with
 |nil=>exact s
 |cons r t ih=>exact .cons r ih
def Vals.take:∀{xs:List V} {us:List Value} (n:Nat),Vals xs us->Vals (xs.take n) (us.take n)
 |_,_,0,_=>.nil
 |_,_,_+1,.nil=>.nil
 |_,_,n+1,.cons r t=>.cons r (Vals.take n t)
def Vals.drop:∀{xs:List V} {us:List Value} (n:Nat),Vals xs us->Vals (xs.drop n) (us.drop n)
 |_,_,0,r=>r
 |_,_,_+1,.nil=>.nil
 |_,_,n+1,.cons _ t=>Vals.drop n t
abbrev J0:Option V->Option Value->Prop
 |some v,some u=>RelV v u
 |none,none=>True
 |_,_=>False
abbrev KV{κ:Type}:List (κ×V)->List (κ×Value)->Prop:=Paired λ(p:κ×V) (q:κ×Value)=>p.1=q.1/\RelV p.2 q.2
abbrev kV:Key->V
 |.inl i=>.int i
 |.inr x=>.str x
inductive HO where
 |lst (xs:List V)
 |tup (xs:List V)
 |dK (kvs:List (Key×V))|dT (kvs:List (List Key×V))
 |set (S:Int->Bool) (n:Nat)
 |ins (C dx:Addr) (fs:List (Str×V))
 |own (x:Addr)
 |xd (fs:List (Str×V))
 |met (f x:Addr)
 |lZ (lo hi:Int)
 |jJ (o:Obj) (u:HO)
 |qg (ps:Array Value)
 |ext (φ:Heap->Prop)
noncomputable abbrev Hp:=Addr->Option HO
abbrev upd(H:Hp)(a:Addr)(o:HO):Hp:=λb=>if b=a then some o else H b
def k6:upd H a o a=some o:=by unfold upd;rw[aH rfl]
def d0(h:b≠a):upd H a o b=H b:=by unfold upd;rw[az h]
def Xx{u}(h:H a=some o)(h':H b=some u)(d:o≠u):a≠b:=by
 intro e;subst e;rw[h] at h';exact d (aG h')
def i7(h:H a=some o)(h':H b=none):a≠b:=by
 intro e;simp_all
abbrev P7(h:Heap)(a:Addr)(items:Array Value):Prop:=∃o,h.get? a=some o/\o.cls=.type "tuple"/\(∃n,o.data=.seq items n)/\o.dict=none
def P7.tup{h}{a}{items}(x:P7 h a items):IsTup h a items:=let ⟨o,e,c,d,_⟩:=x;#[o,e,c,d]
def P7.new(h:Heap)(items:Array Value):P7 (h.push { cls:=.type "tuple",data:=.seq items }) h.objs.size items:=#[_,aB _ rfl,rfl,#[_,rfl],rfl]
section
variable(P:Program)(w:World)
abbrev p6(H:Hp)(h:Heap)(a:Addr):HO->Prop
 |.lst xs=>xs.length<=sizeLine/\∃(aU:List Value) (n:Nat),Vals xs aU/\h.get? a=some { cls:=.type "list",data:=.seq aU.toArray n }
 |.tup xs=>xs.length<=sizeLine/\∃aU:List Value,Vals xs aU/\P7 h a aU.toArray
 |.dK kvs=>kvs.length<=sizeLine/\(a==sysModules)=false/\∃vs,KV kvs vs/\h.DictOf (m4 P w) a vs
 |.dT kvs=>kvs.length<=sizeLine/\(a==sysModules)=false/\∃xs:List (List Key×Addr×Value),
   Paired (λ(p:List Key×V) (q:List Key×Addr×Value)=>p.1=q.1/\H q.2.1=some (.tup (p.1.map kV))/\RelV p.2 q.2.2) kvs xs /\
   ∃o es ep,h.get? a=some o/\o.ExactDict/\o.data=.dict es ep/\es.toList=xs.map (entryOfKey (tupleKind (m4 P w)))/\(xs.map (·.1)).Nodup
 |.set S n=>h.SetOf (intKind P w) a S n
 |.ins C dx fs=>H dx=some (.own a)/\fs.length<=1000/\dx≠a/\h.get? a=some (PySem.W.instObj C dx) /\
   ∃mA,h.Ns1 dx mA/\(∀f,J0 (fs.lookup f) (mA f))/\PySem.Within mA (fs.map (·.1))
 |.own _=>∃o,h.get? a=some o
 |.xd fs=>∃mA,h.Ns1 a mA/\∀f,J0 (fs.lookup f) (mA f)
 |.lZ lo hi=>∃t u v,h.get? a=some { cls:=.type "range",data:=.fields (List.toArray [.int lo t,.int hi u,.int 1 v]) }
 |.jJ o u=>h.get? a=some o/\p6 H h a u
 |.qg ps=>h.get? a=some { cls:=.none,data:=.fields ps }
 |.met f x=>h.get? a=some (PySem.W.methodObj (.ref f) (.ref x))
 |.ext φ=>φ h/\(∃o,h.get? a=some o)/\∀h1 h2:Heap,φ h1->(∀o,h1.get? a=some o->h2.get? a=some o)->φ h2
abbrev gc(H:Hp)(h:Heap):Prop:=∀a o,H a=some o->p6 P w H h a o
end
def p6.lt(x:p6 P w H h a o):a<h.objs.size:=by
 cases o with
 |lst xs=>let#[_,_,_,_,e]:=x;exact aC e
 |tup xs=>let#[_,_,_,p]:=x;exact p.tup.lt
 |dK kvs=>let#[_,_,_,_,o,_,_,e,_]:=x;exact aC e
 |dT kvs=>let#[_,_,_,_,o,_,_,e,_]:=x;exact aC e
 |set S n=>let#[o,_,_,_,e,_]:=x;exact aC e
 |ins C dx fs=>let#[_,_,_,e,_]:=x;exact aC e
 |own y=>let#[_,e]:=x;exact aC e
 |xd fs=>let#[_,#[_,_,_,e,_],_]:=x;exact aC e
 |lZ lo hi=>let#[_,_,_,e]:=x;exact aC e
 |jJ ob u=>let#[e,_]:=x;exact aC e
 |qg ps=>exact aC (show h.get? a=some _ from x)
 |met f y=>exact aC (show h.get? a=some _ from x)
 |ext φ=>let#[_,#[_,e],_]:=x;exact aC e
def Paired.Ks{β:Type}{F G:α->β->Prop}{vL}{vK}(h:Paired F vL vK)(f:∀a b,F a b->G a b):Paired G vL vK:=by
 induction h with
 |nil=>exact .nil
 |cons r t ih=>exact .cons (f _ _ r) ih
def p6.J7(x:p6 P w H h a o)(k:∀b u,(b=a\/H b=some (.own a))->h.get? b=some u->h'.get? b=some u)(ho:∀b,H b=some (.own a)->H' b=some (.own a))(ht:∀b xs,H b=some (.tup xs)->H' b=some (.tup xs)):p6 P w H' h' a o:=by
 induction o with
 |lst xs=>let#[z,aU,n,r,e]:=x;exact#[z,aU,n,r,k _ _ (.inl rfl) e]
 |tup xs=>let#[z,aU,r,ob,e,c]:=x;exact#[z,aU,r,ob,k _ _ (.inl rfl) e,c]
 |dK kvs=>let#[z,y,vs,r,ob,es,ep,e,c]:=x;exact#[z,y,vs,r,ob,es,ep,k _ _ (.inl rfl) e,c]
 |dT kvs =>
  let#[z,y,xs,r,ob,es,ep,e,c]:=x;exact#[z,y,xs,Paired.Ks r λp q z=>#[z.1,ht _ _ z.2.1,z.2.2],ob,es,ep,k _ _ (.inl rfl) e,c]
 |set S n=>let#[ob,es,ep,t,e,c]:=x;exact#[ob,es,ep,t,k _ _ (.inl rfl) e,c]
 |ins C dx fs =>
  let#[d,z,ne,e,mA,#[od,es,ep,e2,c],r]:=x;exact#[ho _ d,z,ne,k _ _ (.inl rfl) e,mA,#[od,es,ep,k _ _ (.inr d) e2,c],r]
 |own y=>let#[ob,e]:=x;exact#[ob,k _ _ (.inl rfl) e]
 |xd fs=>let#[mA,#[od,es,ep,e,c],r]:=x;exact#[mA,#[od,es,ep,k _ _ (.inl rfl) e,c],r]
 |lZ lo hi=>let#[t,u,v,e]:=x;exact#[t,u,v,k _ _ (.inl rfl) e]
 |jJ ob u ih=>let#[e,q]:=x;exact#[k _ _ (.inl rfl) e,ih q]
 |qg ps =>
  have e:h.get? a=some { cls:=.none,data:=.fields ps }:=x;exact k a _ (.inl rfl) e
 |met f y =>
  have e:h.get? a=some (PySem.W.methodObj (.ref f) (.ref y)):=x;exact k a _ (.inl rfl) e
 |ext φ=>let#[p,#[o,e],st]:=x;exact#[st _ _ p λo q=>k _ _ (.inl rfl) q,#[o,k _ _ (.inl rfl) e],st]
def gc.lt(x:gc P w H h)(e:H a=some o):a<h.objs.size:=(x a o e).lt
def gc.fresh(x:gc P w H h)(e:h.objs.size<=a):H a=none:=by
 cases q:H a with
 |none=>rfl
 |some u=>exact absurd (ay (x.lt q) e) (bL _)
def gc.kept(x:gc P w H h)(k:∀b u,h.get? b=some u->h'.get? b=some u):gc P w H h':=λa o e =>
 (x a o e).J7 (λb u _ q=>k b u q) (λ_ q=>q) λ_ _ q=>q
def gc.laid(x:gc P w H h)(k:∀b u,h.get? b=some u->h'.get? b=some u)(hp:h.objs.size<=a)(new:p6 P w (upd H a o) h' a o):gc P w (upd H a o) h':=λb u e=>by
 have hn:=x.fresh hp;by_cases hb:b=a
 ·subst hb;rw[k6] at e;simp_all
 ·rw[d0 hb] at e;exact(x b u e).J7 (λc v _ q=>k c v q) (λc q=>by rw[d0 (i7 q hn)];exact q) λc xs q=>by rw[d0 (i7 q hn)];exact q
abbrev Rd(H:Hp)(a:Addr)(u:HO):Prop:=H a=some u\/∃o,H a=some (.jJ o u)
def Rd.ok{u}(r:Rd H a u)(x:gc P w H h):p6 P w H h a u:=by
 rcases r with r|⟨o,r⟩
 ·exact x a u r
 ·let#[_,q]:=x a _ r;exact q
abbrev ye:Option HO->Prop
 |some (.lst _)=>True
 |some (.dK _)=>True
 |some (.dT _)=>True
 |some (.set _ _)=>True
 |some (.ins _ _ _)=>True
 |some (.ext _)=>True
 |_=>False
section
variable{x e:Addr}{o':HO}
def gc.write(ok:gc P w H h)(mu:ye (H x))(he:e=x\/H e=some (.own x))(k:∀b u,b≠e->h.get? b=some u->h'.get? b=some u)(sj:∃u,h'.get? e=some u)(new:p6 P w (upd H x o') h' x o'):gc P w (upd H x o') h':=λb u q=>by
 have vC:∀c y,H c=some (.own y)->c≠x:=λc y r z=>by subst z;rw[r] at mu;exact mu
 have Bo:∀c xs,H c=some (.tup xs)->c≠x:=λc xs r z=>by subst z;rw[r] at mu;exact mu
 by_cases hb:b=x
 ·subst hb;rw[k6] at q;cases q;exact new
 ·rw[d0 hb] at q;by_cases ud:b=e
  ·have q':H b=some (.own x):=by
    rcases he with z|z
    ·exact absurd (ud.trans z) hb
    ·rw[ud];exact z
   rw[q] at q';cases q';let#[v,hv]:=sj;exact#[v,by rw[ud];exact hv]
  ·refine(ok b u q).J7 (λc v hc r=>k c v ?_ r) (λc r=>by rw[d0 (vC c b r)];exact r) λc xs r=>by rw[d0 (Bo c xs r)];exact r
   rcases hc with rfl|hc
   ·exact ud
   ·rintro rfl;rcases he with z|z
    ·exact vC c b hc z
    ·rw[hc] at z;cases z;exact hb rfl
end
structure Un(fs ex:List Addr)(H H':Hp)(h h':Heap):Prop where
 keep:∀b o,h.get? b=some o->H b=none->b∉fs->b∉ex->h'.get? b=some o
 slot:∀b o,h.get? b=some o->H b=none->b∈fs->b∉ex->∃sl,h'.get? b=some { o with slots:=sl }
 free:∀b o,h.get? b=some o->H b=none->b∉ex->H' b=none
 there:∀b o,h.get? b=some o->b∉ex->∃o',h'.get? b=some o'
 iC:∀b xs,H b=some (.tup xs)->H' b=some (.tup xs)
 ic:∀b o u,H b=some (.jJ o u)->H' b=some (.jJ o u)
 iD:∀b ps,H b=some (.qg ps)->∃more,H' b=some (.qg (ps++more))
section
variable{fs ex:List Addr}{H1:Hp}{h1:Heap}{x e:Addr}
def Un.any(u:Un fs ex H H1 h h1){ob}(q:h.get? b=some ob)(n:H b=none)(hx:b∉ex):∃sl,h1.get? b=some { ob with slots:=sl }:=by
 by_cases hb:b∈fs
 ·exact u.slot b ob q n hb hx
 ·exact#[ob.slots,u.keep b ob q n hb hx]
def Un.kept(k:∀b u,h.get? b=some u->h'.get? b=some u):Un fs ex H H h h' :=
 #[λb ob q _ _ _=>k b ob q,λb ob q _ _ _=>#[ob.slots,k b ob q],λ_ _ _ n _=>n,λb ob q _=>#[ob,k b ob q],λ_ _ q=>q,λ_ _ _ q=>q,λ_ ps q=>#[(List.toArray []),by rw[q];simp]]
def Un.refl:Un fs ex H H h h:=Un.kept λ_ _ q=>q
def Un.laid(k:∀b u,h.get? b=some u->h'.get? b=some u)(hp:h.objs.size<=a)(hn:H a=none):Un fs ex H (upd H a o) h h' where
 keep:=λb u q _ _ _=>k b u q
 slot:=λb u q _ _ _=>#[u.slots,k b u q]
 free:=λb u q n _=>by rw[d0 (aN (ay (aC q) hp))];exact n
 there:=λb u q _=>#[u,k b u q]
 iC:=λb xs q=>by rw[d0 (i7 q hn)];exact q
 ic:=λb u xs q=>by rw[d0 (i7 q hn)];exact q
 iD:=λb ps q=>#[(List.toArray []),by rw[d0 (i7 q hn),q];simp]
def Un.write(mu:ye (H x))(he:e=x\/H e=some (.own x))(k:∀b u,b≠e->h.get? b=some u->h'.get? b=some u)(sj:∃u,h'.get? e=some u):Un fs ex H (upd H x o) h h':=by
 have hx:∀b,H b=none->b≠x:=λb n z=>by subst z;rw[n] at mu;exact mu
 have hb:∀b,H b=none->b≠e:=λb n z=>by
  simp_all
 have hm:∀b u,H b=some u->¬ye (some u)->b≠x:=λb u q nm z=>by simp_all
 refine #[λb u q n _ _=>k b u (hb b n) q,λb u q n _ _=>#[u.slots,k b u (hb b n) q],λb u q n _=>by rw [d0 (hx b n)];exact n,λb u q _=>?_,
  λb xs q=>by rw [d0 (hm b _ q λz=>z)];exact q,λb u xs q=>by rw [d0 (hm b _ q λz=>z)];exact q,λb ps q=>#[(List.toArray []),by rw [d0 (hm b _ q λz=>z),q];simp]]
 by_cases ud:b=e
 ·simp_all
 ·exact#[u,k b u ud q]
end
abbrev oV(h:Heap)(H:Hp):List Addr:=(List.range h.objs.size).filter λa=>(H a).isSome
abbrev pN(h:Heap)(H:Hp):Heap:=PySem.W.hideAll h (oV h H)
def WR(h:Heap)(H:Hp):(pN h H).objs.size=h.objs.size:=PySem.W.hideAll_size _ _
def UT{o}(e:h.get? b=some o)(n:H b=none):(pN h H).get? b=some o :=
 Ha _ e λhm=>by
  have q:(H b).isSome=true:=(aS.mp hm).2;rw[n] at q;simp at q
def bB7{o}(e:(pN h H).get? b=some o):h.get? b=some o/\H b=none:=by
 have e':h.get? b=some o:=Pb (oV h H) e;refine#[e',?_];cases q:H b with
 |none=>rfl
 |some x =>
  have hm:b∈oV h H:=aS.mpr #[bj.mpr (aC e'),by simp[q]];have z:(pN h H).get? b=none:=PySem.W.hideAll_none (oV h H) hm
  simp_all
structure Mod(K:PySem.W.Frag)(mg:Str->Option Value)(base:Heap):Prop where
 mP:K.In base
 glob:base.Ns mainGlobals mg
 blt:∃mb,base.Ns builtinsNs mb/\∀x:Str,x≠"__name__"->mb x=bootBuiltins x
 nolimit:base.NoLimit
structure Cx where
 prog:Program
 w:World
 K:PySem.W.Frag
 mg:Str->Option Value
 base:Heap
 A:Around
 N:List Str
 dt:Shared
 ju:Hp
 env:Env
 outer:List Env
 stack:List Env
 ex:List Addr
 fn:Str->Bool
 calm:Bool
 pn:List (Addr×Obj)
 xe:Value->Shared->Prop
 sg:Option (List (Option V)):=none
abbrev Cx.Nd(X:Cx):Prop:=X.N.Nodup/\X.sg=none
abbrev fS(l:List Env):List Addr:=l.filterMap (·.frame)
noncomputable abbrev Cx.fs(X:Cx):List Addr:=fS X.outer
abbrev xZ(sc:Scope)(x:Str):Prop:=sc.names.lookup x=some .local\/sc.names.lookup x=some .cell\/sc.names.lookup x=some .free
abbrev Loc(sc:Scope)(x:Str):Prop:=sc.names.lookup x=some .local\/sc.names.lookup x=some .cell
abbrev Look(env:Env)(h:Heap)(m:Str->Option Value)(x:Str)(u:Value):Prop :=
 (env.kindOf x=some .local/\m x=some u)\/((env.kindOf x=some .cell\/env.kindOf x=some .free)/\∃c,env.cells.lookup x=some c/\h.IsCell c (some u))
structure Cx.Ok(X:Cx):Prop where
 mod:Mod X.K X.mg X.base
 kind:X.env.scope.kind=.function
 glob:X.env.globals=mainGlobals
 blt:X.env.builtins=builtinsNs
 above:X.dt.heap.objs.size<=X.env.locals
 inj:∀x y c,X.env.cells.lookup x=some c->X.env.cells.lookup y=some c->x=y
 has:∀x,(X.env.kindOf x=some .cell\/X.env.kindOf x=some .free)->∃c,X.env.cells.lookup x=some c
 gW:∀x c,X.fn x=true->X.env.cells.lookup x=some c->X.dt.heap.objs.size<=c
 hd:X.calm=true->X.A.handled=none
 frames:X.A.frames=some X.stack
 rC:X.stack=X.outer\/(X.stack=X.env::X.outer/\X.env.frame=some X.env.locals)
 wO:∀b∈X.ex,b≠X.env.locals/\∀x c,X.env.cells.lookup x=some c->c≠b
 bs:∀b o,X.base.get? b=some o->X.dt.heap.get? b=some o/\X.ju b=none
 nu:X.base.objs.size<=X.dt.heap.objs.size
 kd:∀b o,X.base.get? b=some o->b∉X.ex
 kU:∀b∈X.ex,b∉X.fs
 Q4:X.dt.heap.FunFrames X.base X.outer
 oh:∀b∈X.fs,X.ju b=none
structure Inv(X:Cx)(pi:List (Addr×Obj))(Z:List (Option V))(H:Hp)(s:Shared):Prop where
 ok:X.Ok
 os:s.os=X.dt.os
 bare:AllBare s.gens
 base:Un X.fs X.ex X.ju H X.dt.heap s.heap
 loc:∃m,s.heap.Ns X.env.locals m/\∀(i:Nat) (x:Str) (v:V),X.N[i]?=some x->Z[i]?=some (some v)->xZ X.env.scope x->∃u,RelV v u/\Look X.env s.heap m x u
 cell:∀x c,X.env.cells.lookup x=some c->∃v,s.heap.IsCell c v
 free:H X.env.locals=none
 eK:∀x c,X.env.cells.lookup x=some c->H c=none
 pin:∀p∈X.pn++pi,s.heap.get? p.1=some p.2/\H p.1=none/\p.1≠X.env.locals/\p.1∉X.fs/\∀v,p.2.data≠.cell v
 bJ:gc X.prog X.w H s.heap
 len:Z.length=X.N.length
 sg:∀cW,X.sg=some cW->Z=cW
section
variable{Z:List (Option V)}
def Cx.Ok.b76(ok:X.Ok){o}(e:X.base.get? b=some o):b∉X.fs:=λhb=>by
 have:=(ok.Q4.mem hb).1
 simp_all
def Inv.bs(I:Inv X pi Z H s):∀b o,X.base.get? b=some o->s.heap.get? b=some o/\H b=none:=λb o e =>
 #[I.base.keep b o (I.ok.bs b o e).1 (I.ok.bs b o e).2 (I.ok.b76 e) (I.ok.kd b o e),I.base.free b o (I.ok.bs b o e).1 (I.ok.bs b o e).2 (I.ok.kd b o e)]
def Inv.bk(I:Inv X pi Z H s):∀b o,X.base.get? b=some o->s.heap.get? b=some o:=λb o e=>(I.bs b o e).1
def Inv.mod(I:Inv X pi Z H s):Mod X.K X.mg X.base:=I.ok.mod
def Inv.gA(I:Inv X pi Z H s):X.K.In s.heap:=I.ok.mod.mP.keeps I.bk
def Inv.lt(I:Inv X pi Z H s):X.env.locals<s⁻¹:=let ⟨_,hn,_⟩:=I.loc;hn.lt
def Inv.sz(I:Inv X pi Z H s):X.dt.heap.objs.size<=s⁻¹:=aD I.ok.above (dk I.lt)
def Inv.Ec(I:Inv X pi Z H s)(h:s⁻¹<=a):a∉X.fs:=λhb=>by
 let#[_,o,ho,_]:=I.ok.Q4.mem hb;exact absurd (ay (aC ho) (aD I.sz h)) (bL _)
def Inv.sI(I:Inv X pi Z H s):∀x c,X.env.cells.lookup x=some c->c≠X.env.locals:=λx c e z=>by
 let#[v,o,ho,hd]:=I.cell x c e;let#[m,#[o',es,ep,nV,Cd,_],_]:=I.loc
 simp_all
def Inv.Q4(I:Inv X pi Z H s):s.heap.FunFrames X.base X.outer:=by
 have all:∀(l:List Env),(∀b∈fS l,b∈X.fs)->X.dt.heap.FunFrames X.base l->s.heap.FunFrames X.base l:=by
  intro l
  induction l with
  |nil=>intro _ _;trivial
  |cons env r ih =>
   intro hs hl;let#[hk,#[L,o,hf,hn,ho,hd],hr]:=hl;have hL:L∈X.fs:=hs L (by unfold fS;rw[eI,hf];exact jX);let#[sl,e]:=I.base.slot L o ho (I.ok.oh L hL) hL λz=>I.ok.kU L z hL;exact#[hk,#[L,_,hf,hn,e,hd],ih (λb hb=>hs b (by unfold fS;rw[eI,hf];exact bX _ hb)) hr]
 exact all X.outer (λ_ hb=>hb) I.ok.Q4
def Inv.stack(I:Inv X pi Z H s):s.heap.FunFrames X.base X.stack:=by
 rcases I.ok.rC with e|⟨e,hf⟩
 ·rw[e];exact I.Q4
 ·rw[e];let#[m,hn,_]:=I.loc;refine .cons (by rw[I.ok.kind];decide) hf hn ?_ I.Q4;exact Heap.get?_none_of_le (aD I.ok.nu I.ok.above)
def Inv.tG(I:Inv X pi Z H s):∀b∈fS X.stack,b∈X.env.locals::X.fs:=λb hb=>by
 rcases I.ok.rC with e|⟨e,hf⟩
 ·rw[e] at hb;exact bX _ hb
 ·rw[e] at hb;unfold fS at hb;rw[eI,hf] at hb;exact hb
def Inv.zD(I:Inv X pi Z H s):∀b∈fS X.stack,H b=none:=λb hb=>by
 rcases aF.mp (I.tG b hb) with e|hb
 ·rw[e];exact I.free
 ·let#[_,o,ho,_]:=I.ok.Q4.mem hb;exact I.base.free b o ho (I.ok.oh b hb) λz=>I.ok.kU b z hb
def Inv.step{g':Array GenState}{t':Nat}{d':Drawn}{ch:List Addr}(I:Inv X pi Z H s)(nZ:∀b∈ch,(b∈X.ex\/X.dt.heap.objs.size<=b)/\b≠X.env.locals/\(∀x c,X.env.cells.lookup x=some c->c≠b)/\∀p∈X.pn++pi,p.1≠b)(keep:∀b o,b≠X.env.locals->b∉X.fs->b∉ch->s.heap.get? b=some o->H b=none->h'.get? b=some o)(slot:∀b o,b≠X.env.locals->b∈X.fs->b∉ch->s.heap.get? b=some o->H b=none->∃sl,h'.get? b=some { o with slots:=sl })(free:∀b o,b∉ch->s.heap.get? b=some o->H b=none->H' b=none)(there:∀b o,b∉ch->s.heap.get? b=some o->∃o',h'.get? b=some o')(iC:∀b xs,H b=some (.tup xs)->H' b=some (.tup xs))(ic:∀b o u,H b=some (.jJ o u)->H' b=some (.jJ o u))(iD:∀b ps,H b=some (.qg ps)->∃more,H' b=some (.qg (ps++more)))(ns:∀m,s.heap.Ns X.env.locals m->h'.Ns X.env.locals m)(bJ:gc X.prog X.w H' h')(hg:AllBare g') :
  Inv X pi Z H' { s with heap:=h',gens:=g',drawn:=d',toks:=t' }:=by
 have HE:∀b o,X.dt.heap.get? b=some o->b≠X.env.locals:=λb o e=>aN (ay (aC e) I.ok.above);have tT:∀b o,X.dt.heap.get? b=some o->b∉X.ex->b∉ch:=λb o e hx hb=>by
  rcases(nZ b hb).1 with z|z
  ·exact hx z
  ·exact absurd (ay (aC e) z) (bL _)
 have cellK:∀x c,X.env.cells.lookup x=some c->∀v,s.heap.IsCell c v->h'.IsCell c v:=λx c e v bp=>by
  let#[o,ho,hd]:=bp;have vH:c∉ch:=λz=>(nZ c z).2.2.1 x c e rfl;by_cases hc:c∈X.fs
  ·let#[sl,q]:=slot c o (I.sI x c e) hc vH ho (I.eK x c e);exact#[_,q,hd]
  ·exact#[o,keep c o (I.sI x c e) hc vH ho (I.eK x c e),hd]
 refine#[I.ok,I.os,hg,#[λb o e n hb hx=>?_,λb o e n hb hx=>?_,λb o e n hx=>?_,λb o e hx=>?_,λb xs e=>iC b xs (I.base.iC b xs e),λb o xs e=>ic b o xs (I.base.ic b o xs e),λb ps e=>?_],?_,λx c e=>?_,?_,λx c e=>?_,λp hp=>?_,bJ,I.len,I.sg]
 ·exact keep b o (HE b o e) hb (tT b o e hx) (I.base.keep b o e n hb hx) (I.base.free b o e n hx)
 ·let#[sl,e1]:=I.base.slot b o e n hb hx;let#[PN,e2]:=slot b _ (HE b o e) hb (tT b o e hx) e1 (I.base.free b o e n hx);exact#[PN,e2]
 ·let#[o',e1]:=I.base.there b o e hx;exact free b o' (tT b o e hx) e1 (I.base.free b o e n hx)
 ·let#[o',e1]:=I.base.there b o e hx;exact there b o' (tT b o e hx) e1
 ·let#[m1,e1]:=I.base.iD b ps e;let#[m2,e2]:=iD b _ e1;exact#[m1++m2,by rw[e2,Array.append_assoc]]
 ·let#[m,hn,hl]:=I.loc;refine#[m,ns m hn,λi x v e1 e2 e3=>?_];let#[u,r,l]:=hl i x v e1 e2 e3;refine#[u,r,?_];rcases l with l|⟨k,c,e,z⟩
  ·exact .inl l
  ·exact .inr #[k,c,e,cellK x c e _ z]
 ·let#[v,z]:=I.cell x c e;exact#[v,cellK x c e v z]
 ·let#[m,#[o,_,_,ho,_],_]:=I.loc;exact free _ o (λz=>(nZ _ z).2.1 rfl) ho I.free
 ·let#[v,o,ho,hd]:=I.cell x c e;exact free c o (λz=>(nZ c z).2.2.1 x c e rfl) ho (I.eK x c e)
 ·let#[e,n,ne,nf,d]:=I.pin p hp;have vH:p.1∉ch:=λz=>(nZ p.1 z).2.2.2 p hp rfl;exact#[keep p.1 p.2 ne nf vH e n,free p.1 p.2 vH e n,ne,nf,d]
def Inv.un{t'}(I:Inv X pi Z H s)(u:Un X.fs [] H H' s.heap h')(bJ:gc X.prog X.w H' h'):Inv X pi Z H' { s with heap:=h',toks:=t' }:=by
 let#[m,#[o,es,ep,ho,r],_]:=id I.loc;let#[sl,hL]:=u.any ho I.free #[_];exact I.step (g':=s.gens) (d':=s.drawn) (ch:=[]) (λ_ z=>nomatch z) (λb o _ hb _ e n=>u.keep b o e n hb #[_]) (λb o _ hb _ e n=>u.slot b o e n hb #[_]) (λb o _ e n=>u.free b o e n #[_]) (λb o _ e=>u.there b o e #[_]) u.iC u.ic u.iD (λm' hm=>by
  let#[o',ze,DC,nV,r']:=hm;rw[ho] at nV;cases nV;exact #[_,ze,DC,hL,r']) bJ I.bare
def Inv.call{g'}{t'}{d'}(I:Inv X pi Z H s)(u:Un (fS X.stack) ch H H' s.heap h')(bJ:gc X.prog X.w H' h')(hg:AllBare g')(nZ:∀b∈ch,(b∈X.ex\/X.dt.heap.objs.size<=b)/\b≠X.env.locals/\(∀x c,X.env.cells.lookup x=some c->c≠b)/\∀p∈X.pn++pi,p.1≠b) :
  Inv X pi Z H' { s with heap:=h',gens:=g',drawn:=d',toks:=t' }:=by
 let#[m,#[o,es,ep,ho,r],_]:=id I.loc;let#[sl,hL]:=u.any ho I.free λz=>(nZ _ z).2.1 rfl;exact I.step (ch:=ch) nZ (λb o hL hb hc e n=>u.keep b o e n (λz=>(aF.mp (I.tG b z)).elim hL hb) hc) (λb o _ _ hc e n=>u.any e n hc) (λb o hc e n=>u.free b o e n hc) (λb o hc e=>u.there b o e hc) u.iC u.ic u.iD (λm' hm=>by
  let#[o',ze,DC,nV,r']:=hm;rw[ho] at nV;cases nV;exact #[_,ze,DC,hL,r']) bJ hg
def Inv.turned{t'}{it}(I:Inv X pi Z H s)(k:∀b o,b≠it->s.heap.get? b=some o->h'.get? b=some o)(hn:H it=none)(hL:it≠X.env.locals)(h1:it∈X.ex\/X.dt.heap.objs.size<=it)(h2:∀x c,X.env.cells.lookup x=some c->c≠it)(h3:∀p∈X.pn++pi,p.1≠it):Inv X pi Z H { s with heap:=h',toks:=t' }:=by
 have HD:∀b u,H b=some u->b≠it:=λb u e z=>by simp_all
 refine I.step (g':=s.gens) (d':=s.drawn) (ch:=[it]) (λb hb=>?_) (λb o _ _ hc e _=>k b o (λz=>hc (by simp[z])) e) (λb o _ _ hc e _=>#[o.slots,k b o (λz=>hc (by simp[z])) e]) (λ_ _ _ _ n=>n)
  (λb o hc e=>#[o,k b o (λz=>hc (by simp[z])) e]) (λ_ _ e=>e) (λ_ _ _ e=>e) (λb ps e=>#[(List.toArray []),by rw[e];simp]) (λm hm=>?_) (λb u e=>?_) I.bare
 ·have e:b=it:=by simpa using hb
  subst e;exact#[h1,hL,h2,h3]
 ·let#[o,es,ep,ho,r]:=hm;exact#[o,es,ep,k _ o (aZ hL) ho,r]
 ·refine(I.bJ b u e).J7 (λc v hc q=>k c v ?_ q) (λ_ q=>q) λ_ _ q=>q;rcases hc with z|z
  ·rw[z];exact HD b u e
  ·exact HD c _ z
def Inv.tok(I:Inv X pi Z H s)(t:Nat):Inv X pi Z H { s with toks:=t }:=I.un (h':=s.heap) (t':=t) Un.refl I.bJ
def Inv.kept{t'}(I:Inv X pi Z H s)(k:∀b u,s.heap.get? b=some u->h'.get? b=some u):Inv X pi Z H { s with heap:=h',toks:=t' }:=I.un (Un.kept k) (I.bJ.kept k)
def Inv.laid{a:Addr}{o:HO}{t':Nat}(I:Inv X pi Z H s)(k:∀b u,s.heap.get? b=some u->h'.get? b=some u)(hp:s⁻¹<=a)(new:p6 X.prog X.w (upd H a o) h' a o) :
  Inv X pi Z (upd H a o) { s with heap:=h',toks:=t' }:=I.un (Un.laid k hp (I.bJ.fresh hp)) (I.bJ.laid k hp new)
def Inv.write{x e}{o}{t'}(I:Inv X pi Z H s)(mu:ye (H x))(he:e=x\/H e=some (.own x))(k:∀b u,b≠e->s.heap.get? b=some u->h'.get? b=some u)(sj:∃u,h'.get? e=some u)(new:p6 X.prog X.w (upd H x o) h' x o):Inv X pi Z (upd H x o) { s with heap:=h',toks:=t' }:=I.un (Un.write mu he k sj) (I.bJ.write mu he k sj new)
def Inv.weak{bV}(hs:X.sg=none)(I:Inv X pi Z H s)(hl:bV.length=Z.length)(w:∀(i:Nat) v,bV[i]?=some (some v)->Z[i]?=some (some v)):Inv X pi bV H s :=
 #[I.ok,I.os,I.bare,I.base,let ⟨m,hn,vZ⟩:=I.loc;#[m,hn,λi x v e1 e2 e3=>vZ i x v e1 (w i v e2) e3],I.cell,I.free,I.eK,I.pin,I.bJ,hl.trans I.len,λ_ z=>by simp_all]
def Inv.xK{fo}(I:Inv X pi Z H s)(h:∀p∈fo,s.heap.get? p.1=some p.2/\H p.1=none/\p.1≠X.env.locals/\p.1∉X.fs/\∀v,p.2.data≠.cell v):Inv X fo Z H s :=
 #[I.ok,I.os,I.bare,I.base,I.loc,I.cell,I.free,I.eK,λp hp=>(bD.mp hp).elim (λz=>I.pin p (eh _ z)) (h p),I.bJ,I.len,I.sg]
def Nu(hN:N.Nodup){j}(a:N[i]?=some x)(b:N[j]?=some x):i=j:=by
 let#[h1,e1]:=aw.mp a;let#[h2,e2]:=aw.mp b;exact(lK hN).mp (e1.trans e2.symm)
def EM{Q}(I:Inv X pi Z H s)(hN:X.Nd)(hi:X.N[i]?=some x)(hx:Loc X.env.scope x)(r:RelV v u)(h:∀s',Inv X pi (Z.set i (some v)) H s'->(∃a,Heap.SameBut a s.heap s'.heap/\(a=X.env.locals\/X.env.cells.lookup x=some a))->Q Unit.unit s')(hf:X.fn x=true\/X.env.scope.names.lookup x=some .local:=by first|exact .inl rfl|exact .inr rfl|assumption):wpAny M A (storeName X.env x u) Q E s:=by
 let#[m,hn,hl]:=id I.loc;have pA:(X.env.scope.kind==.class||(X.env.scope.kind==.module&&X.env.locals != X.env.globals))=false:=by rw[I.ok.kind];rfl
 have wc:i<Z.length:=by rw[I.len];exact(aw.mp hi).1
 have sI:=I.sI;have tracked:∀{a:Addr} {h':Heap},(∃o,s.heap.get? a=some o/\H a=none)->Heap.SameBut a s.heap h'->gc X.prog X.w H h':=λ{a h'} ha hs b ob e=>by
  let#[_,_,qw]:=ha;refine(I.bJ b ob e).J7 (λc w' hc q=>(hs.2 c ?_).trans q) (λ_ q=>q) λ_ _ q=>q;rintro rfl;rcases hc with rfl|hc
  ·rw[qw] at e;cases e
  ·rw[qw] at hc;cases hc
 rcases hx with hk|hk
 ·refine wpAny_storeName_local hk hn (λh' BR hs=>?_) pA;let#[oL,_,_,lM,_]:=id hn;refine h _ #[I.ok,I.os,I.bare,#[λb o e n hb hx=>?_,λb o e n hb hx=>?_,I.base.free,λb o e hx=>?_,I.base.iC,I.base.ic,I.base.iD],#[_,BR,λj y v' e1 e2 e3=>?_],λy c e=>?_,I.free,I.eK,λp hp=>?_,tracked #[oL,lM,I.free] hs,by simpa using I.len,λ_ z=>by rw[hN.2] at z;cases z] #[_,hs,.inl rfl]
  ·exact(hs.2 b (aN (ay (aC e) I.ok.above))).trans (I.base.keep b o e n hb hx)
  ·let#[sl,e1]:=I.base.slot b o e n hb hx;exact#[sl,(hs.2 b (aN (ay (aC e) I.ok.above))).trans e1]
  ·let#[o',e1]:=I.base.there b o e hx;exact#[o',(hs.2 b (aN (ay (aC e) I.ok.above))).trans e1]
  ·by_cases hj:j=i
   ·subst hj;rw[hi] at e1;cases e1;rw[bg wc] at e2;cases e2;exact#[u,r,.inl #[hk,by simp]]
   ·rw[aI (aZ hj)] at e2;let#[u',r',q]:=hl j y v' e1 e2 e3;refine#[u',r',?_];rcases q with⟨k,e⟩|⟨k,c,e,z⟩
    ·refine .inl #[k,?_];have:y≠x:=λe=>hj (Nu hN.1 e1 (e▸hi));simp[this,e]
    ·exact .inr #[k,c,e,z.sameBut hs (sI y c e)]
  ·let#[w',z]:=I.cell y c e;exact#[w',z.sameBut hs (sI y c e)]
  ·let#[e,n,ne,nf,d]:=I.pin p hp;exact#[(hs.2 p.1 ne).trans e,n,ne,nf,d]
 ·have ub:X.fn x=true:=by
   simp_all
  let#[c,hc]:=I.ok.has x (.inl hk);let#[w',z]:=I.cell x c hc;refine wpAny_storeName_cell I.ok.kind hk hc z (λh' mn hs=>?_);let#[oc,BP,BO]:=id z;refine h { s with heap:=h' } #[I.ok,I.os,I.bare,#[λb o e n hb hx=>?_,λb o e n hb hx=>?_,I.base.free,λb o e hx=>?_,I.base.iC,I.base.ic,I.base.iD],#[m,hn.sameBut hs (aZ (sI x c hc)),λj y v' e1 e2 e3=>?_],λy c' e=>?_,I.free,I.eK,λp hp=>?_,tracked #[oc,BP,I.eK x c hc] hs,by simpa using I.len,λ_ z=>by rw[hN.2] at z;cases z] #[c,hs,.inr hc]
  ·exact(hs.2 b (aN (ay (aC e) (I.ok.gW x c ub hc)))).trans (I.base.keep b o e n hb hx)
  ·let#[sl,e1]:=I.base.slot b o e n hb hx;exact#[sl,(hs.2 b (aN (ay (aC e) (I.ok.gW x c ub hc)))).trans e1]
  ·let#[o',e1]:=I.base.there b o e hx;exact#[o',(hs.2 b (aN (ay (aC e) (I.ok.gW x c ub hc)))).trans e1]
  ·by_cases hj:j=i
   ·subst hj;rw[hi] at e1;cases e1;rw[bg wc] at e2;cases e2;exact#[u,r,.inr #[.inl hk,c,hc,mn]]
   ·rw[aI (aZ hj)] at e2;let#[u',r',q]:=hl j y v' e1 e2 e3;refine#[u',r',?_];rcases q with q|⟨k,c',e,z'⟩
    ·exact .inl q
    ·refine .inr #[k,c',e,z'.sameBut hs ?_];rintro rfl;exact hj (Nu hN.1 e1 (I.ok.inj _ _ _ e hc▸hi))
  ·by_cases uc:c'=c
   ·subst uc;exact#[_,mn]
   ·let#[w2,z2]:=I.cell y c' e;exact#[w2,z2.sameBut hs uc]
  ·let#[e,n,ne,nf,d]:=I.pin p hp;refine#[(hs.2 p.1 ?_).trans e,n,ne,nf,d];intro q;rw[q,BP] at e;have q':oc=p.2:=aG e;exact d w' (by rw[<- q'];exact BO)
def Et{Q}(I:Inv X pi Z H s)(hN:X.Nd)(hi:X.N[i]?=some x)(hx:Loc X.env.scope x)(r:RelV v u)(h:∀s',Inv X pi (Z.set i (some v)) H s'->Q Unit.unit s')(hf:X.fn x=true\/X.env.scope.names.lookup x=some .local:=by first|exact .inl rfl|exact .inr rfl|assumption):wpAny M A (storeName X.env x u) Q E s :=
 EM I hN hi hx r (λs' I' _=>h s' I') hf
def Inv.Gw{s'}(I:Inv X pi Z H s)(ho:s'.os=s.os)(u:Un (fS X.stack) ch H H' s.heap s'.heap)(bJ:gc X.prog X.w H' s'.heap)(hg:AllBare s'.gens)(nZ:∀b∈ch,(b∈X.ex\/X.dt.heap.objs.size<=b)/\b≠X.env.locals/\(∀x c,X.env.cells.lookup x=some c->c≠b)/\∀p∈X.pn++pi,p.1≠b):Inv X pi Z H' s':=by
 let#[h',g',d',t',o']:=s';have e:o'=s.os:=ho;subst e;exact I.call (g':=g') (t':=t') (d':=d') u bJ hg nZ
end
noncomputable abbrev XK:=Value->Option Addr->Hp->Prop
noncomputable abbrev St:=List (Option V)
noncomputable abbrev VK:=V->Hp->Prop
noncomputable abbrev TE:=St->Hp->VK->Prop
noncomputable abbrev TT:=St->Hp->(Bool->Hp->Prop)->Prop
noncomputable abbrev TA:=St->Hp->(List V->Hp->Prop)->Prop
structure Ends where
 nx:St->Hp->Prop
 rt:VK
 bk:St->Hp->Prop:=λ_ _=>False
 ct:St->Hp->Prop:=λ_ _=>False
noncomputable abbrev TS:=Ends->St->Hp->Prop
abbrev EP(X:Cx)(pi:List (Addr×Obj))(Z:St)(Q:VK)(u:Value)(s':Shared):Prop:=∃v H',Inv X pi Z H' s'/\RelV v u/\Q v H'
abbrev TP(X:Cx)(pi:List (Addr×Obj))(Z:St)(Q:Bool->Hp->Prop)(b:Bool)(s':Shared):Prop:=∃H',Inv X pi Z H' s'/\Q b H'
abbrev AP(X:Cx)(pi:List (Addr×Obj))(Z:St)(Q:List V->Hp->Prop)(us:List Value)(s':Shared):Prop:=∃vs H',Inv X pi Z H' s'/\Vals vs us/\Q vs H'
abbrev SP(X:Cx)(pi:List (Addr×Obj))(D:Ends)(f:Flow)(s':Shared):Prop :=
 match f with
 |.next=>∃bV H',Inv X pi bV H' s'/\D.nx bV H'
 |.brk=>∃bV H',Inv X pi bV H' s'/\D.bk bV H'
 |.cont=>∃bV H',Inv X pi bV H' s'/\D.ct bV H'
 |.ret u=>∃v bV H',Inv X pi bV H' s'/\RelV v u/\D.rt v H'
abbrev PE(X:Cx)(e:Expr)(t:TE):Prop :=
 ∀(pi:List (Addr×Obj)) (s:Shared) (Z:St) (H:Hp) (Q:VK),Inv X pi Z H s->t Z H Q->wpAny (model X.prog X.w) X.A (eval e X.env) (EP X pi Z Q) X.xe s
abbrev PT(X:Cx)(e:Expr)(t:TT):Prop :=
 ∀(pi:List (Addr×Obj)) (s:Shared) (Z:St) (H:Hp) (Q:Bool->Hp->Prop),Inv X pi Z H s->t Z H Q->wpAny (model X.prog X.w) X.A (isTrue e X.env (eval e X.env)) (TP X pi Z Q) X.xe s
abbrev PW(X:Cx)(e:Expr)(t:TT):Prop :=
 ∀(whole:Sem Value) (pi:List (Addr×Obj)) (s:Shared) (Z:St) (H:Hp) (Q:Bool->Hp->Prop),Inv X pi Z H s->t Z H Q->wpAny (model X.prog X.w) X.A (isTrue e X.env whole) (TP X pi Z Q) X.xe s
def PW.pt{t}(h:PW X e t):PT X e t:=h _
abbrev PA(X:Cx)(es:List Expr)(t:TA):Prop :=
 ∀(pos:Pos) (pi:List (Addr×Obj)) (s:Shared) (Z:St) (H:Hp) (Q:List V->Hp->Prop),Inv X pi Z H s->t Z H Q->wpAny (model X.prog X.w) X.A (spliced (backTo pos (starEach es X.env))) (AP X pi Z Q) X.xe s
abbrev PS(X:Cx)(st:Stmt)(t:TS):Prop :=
 ∀(pi:List (Addr×Obj)) (s:Shared) (Z:St) (H:Hp) (D:Ends),Inv X pi Z H s->t D Z H->wpAny (model X.prog X.w) X.A (exec st X.env) (SP X pi D) X.xe s
abbrev jd(X:Cx)(st:List Stmt)(t:TS):Prop :=
 ∀(pi:List (Addr×Obj)) (s:Shared) (Z:St) (H:Hp) (D:Ends),Inv X pi Z H s->t D Z H->wpAny (model X.prog X.w) X.A (execs st X.env) (SP X pi D) X.xe s
def cE{t}{Q Q':α->Shared->Prop}(h:wpAny M A t Q E s)(hQ:∀a s,Q a s->Q' a s):wpAny M A t Q' E s:=aY h hQ λ_ _ x=>x
section
def bin{a b}(ha:PE X a ta)(hb:PE X b tb){R:V->V->Hp->Prop}(I:Inv X pi Z H s)(h:ta Z H λx H1=>tb Z H1 λy H2=>R x y H2){Q:α->Shared->Prop}{f:Value->Value->Sem α}(hf:∀v u s2 x y H2,Inv X pi Z H2 s2->RelV x v->RelV y u->R x y H2->wpAny (model X.prog X.w) X.A (f v u) Q X.xe s2) :
  wpAny (model X.prog X.w) X.A (eval a X.env) (λv bz=>wpAny (model X.prog X.w) X.A (eval b X.env) (λu eT=>wpAny (model X.prog X.w) X.A (f v u) Q X.xe eT) X.xe bz) X.xe s:=by
 refine cE (ha pi s Z H _ I h) λv s1 bp=>?_;let#[x,H1,I1,r1,q1]:=bp;refine cE (hb pi s1 Z H1 _ I1 q1) λu s2 bp=>?_;let#[y,H2,I2,r2,q2]:=bp;exact hf v u s2 x y H2 I2 r1 r2 q2
abbrev oC(i:Nat):TE:=λZ H Q=>∃v,Z[i]?=some (some v)/\Q v H
abbrev tC(v:V):TE:=λ_ H Q=>Q v H
def Oy(hN:X.N[i]?=some x)(hv:xZ X.env.scope x)(hd:(x==("__debug__":Str))=false:=by decide)(lP:(x==("__classdict__":Str))=false:=by decide):PE X (.Name x pos) (oC i):=by
 intro pi s Z H Q I h;let#[v,e,h]:=h;let#[m,hn,hl]:=I.loc;let#[u,r,l]:=hl i x v hN e hv;have fin:EP X pi Z Q u s:=#[v,H,I,r,h]
 rcases l with⟨hk,hm⟩|⟨hk,c,hc,lx⟩
 ·exact wpAny_Name (wpAny_loadName_local I.ok.kind hk hn hm fin) hd
 ·rcases hk with hk|hk
  ·exact wpAny_Name (wpAny_loadName_cell I.ok.kind hk hc lx fin) hd
  ·exact wpAny_Name (wpAny_loadName_free I.ok.kind hk hc lx fin lP) hd
def ZD{i j pos}:PE X (.Constant (.int i) j pos) (tC (.int i)):=λ_ _ _ H _ I h=>wpAny_Constant_int #[.int i,H,I.tok _,#[_,rfl],h]
def XG{b j pos}:PE X (.Constant (.bool b) j pos) (tC (.bl b)):=λ_ _ _ H _ I h=>Constant_bool #[.bl b,H,I,rfl,h]
def ZF{j pos}:PE X (.Constant .none j pos) (tC .br):=λ_ _ _ H _ I h=>Constant_none #[.br,H,I,rfl,h]
def ZI{x j pos}:PE X (.Constant (.str x) j pos) (tC (.str x)):=λ_ _ _ H _ I h=>Calls.Constant_str #[.str x,H,I.tok _,#[_,rfl],h]
abbrev Gl(X:Cx)(x:Str):Prop:=X.env.kindOf x=some .globalImplicit
def U6(I:Inv X pi Z H s)(hg:Gl X x)(hm:X.mg x=some u)(h:Q u s)(hd:(x==("__debug__":Str))=false:=by decide):wpAny (model X.prog X.w) X.A (eval (.Name x pos) X.env) Q E s :=
 AR I.ok.kind hg (Calls.loadGlobal_global (by rw[I.ok.glob];exact I.mod.glob.keeps I.bk) hm h) hd
def T4(I:Inv X pi Z H s)(hg:Gl X x)(hm:X.mg x=none)(hv:bootBuiltins x=some u)(h:Q u s)(hn:x≠"__name__":=by decide)(hd:(x==("__debug__":Str))=false:=by decide):wpAny (model X.prog X.w) X.A (eval (.Name x pos) X.env) Q E s:=by
 let#[mb,h1,h2]:=I.mod.blt;exact AR I.ok.kind hg (Calls.loadGlobal_builtin (by rw[I.ok.glob];exact I.mod.glob.keeps I.bk) hm (by rw[I.ok.blt];exact h1.keeps I.bk) ((h2 x hn).trans hv) h) hd
def MC(hg:Gl X x)(hm:X.mg x=some u)(r:RelV v u)(hd:(x==("__debug__":Str))=false:=by decide):PE X (.Name x pos) (tC v) :=
 λ_ _ _ H _ I h=>U6 I hg hm #[v,H,I,r,h] hd
def bA5(hg:Gl X x)(hm:X.mg x=none)(hv:bootBuiltins x=some u)(r:RelV v u)(hn:x≠"__name__":=by decide)(hd:(x==("__debug__":Str))=false:=by decide):PE X (.Name x pos) (tC v) :=
 λ_ _ _ H _ I h=>T4 I hg hm hv #[v,H,I,r,h] hn hd
variable{a b:Expr}
variable{tA yx:TT}{rest:List Expr}
abbrev b54(t u:TT):TT:=λZ H Q=>t Z H λc H1=>if c=true then u Z H1 Q else Q false H1
abbrev Pz(t u:TT):TT:=λZ H Q=>t Z H λc H1=>if c=true then Q true H1 else u Z H1 Q
abbrev b47(t:TT):TT:=λZ H Q=>t Z H λc H1=>Q (!c) H1
def Tr(ha:PT X a tA):PW X (.BoolOp .And [a] pos) tA:=by
 intro wh pi s Z H Q I h;refine isTrue_and (cE (ha pi s Z H Q I h) λc s1 e=>?_);cases c with
 |true=>exact isTrue_and_nil e
 |false=>exact e
def ZU(ha:PT X a tA):PW X (.BoolOp .Or [a] pos) tA:=by
 intro wh pi s Z H Q I h;refine isTrue_or (cE (ha pi s Z H Q I h) λc s1 e=>?_);cases c with
 |false=>exact isTrue_or_nil e
 |true=>exact e
def ZT(ha:PT X a tA)(hb:PW X (.BoolOp .And (b::rest) pos) yx):PW X (.BoolOp .And (a::b::rest) pos) (b54 tA yx):=by
 intro wh pi s Z H Q I h;refine isTrue_and (cE (ha pi s Z H _ I h) ?_);rintro c s1 ⟨H1,I1,q1⟩;cases c with
 |true=>exact hb wh pi s1 Z H1 Q I1 q1
 |false=>exact#[H1,I1,q1]
def XQ(ha:PT X a tA)(hb:PW X (.BoolOp .Or (b::rest) pos) yx):PW X (.BoolOp .Or (a::b::rest) pos) (Pz tA yx):=by
 intro wh pi s Z H Q I h;refine isTrue_or (cE (ha pi s Z H _ I h) ?_);rintro c s1 ⟨H1,I1,q1⟩;cases c with
 |true=>exact#[H1,I1,q1]
 |false=>exact hb wh pi s1 Z H1 Q I1 q1
def ZS(ha:PT X a tA):PT X (.UnaryOp .Not a pos) (b47 tA):=by
 intro pi s Z H Q I h;exact isTrue_not (ha pi s Z H (λc H1=>Q (!c) H1) I h)
abbrev Ye(ta tb:TE):TE:=λZ H Q=>ta Z H λx H1=>∃c,x=.bl c/\if c=true then tb Z H1 Q else Q (.bl false) H1
abbrev b46(ta tb:TE):TE:=λZ H Q=>ta Z H λx H1=>∃c,x=.bl c/\if c=true then Q (.bl true) H1 else tb Z H1 Q
abbrev Yi(ta:TE):TE:=λZ H Q=>ta Z H λx H1=>∃c,x=.bl c/\Q (.bl (!c)) H1
def ZH{op}{t}(h:PE X a t):PE X (.BoolOp op [a] pos) t:=λpi s Z H Q I hw=>BoolOp_one (h pi s Z H Q I hw)
def Zz(ha:PE X a ta)(hb:PE X (.BoolOp .And (b::rest) pos) tb):PE X (.BoolOp .And (a::b::rest) pos) (Ye ta tb):=by
 intro pi s Z H Q I h;refine BoolOp_and (cE (ha pi s Z H _ I h) λv s1 bp=>?_);let#[x,H1,I1,r1,q1]:=bp;let#[c,rfl,q1]:=q1;cases r1;refine cG ?_;cases c with
 |true=>exact hb pi s1 Z H1 Q I1 q1
 |false=>exact#[.bl false,H1,I1,rfl,q1]
def XJ(ha:PE X a ta)(hb:PE X (.BoolOp .Or (b::rest) pos) tb):PE X (.BoolOp .Or (a::b::rest) pos) (b46 ta tb):=by
 intro pi s Z H Q I h;refine BoolOp_or (cE (ha pi s Z H _ I h) λv s1 bp=>?_);let#[x,H1,I1,r1,q1]:=bp;let#[c,rfl,q1]:=q1;cases r1;refine cG ?_;cases c with
 |false=>exact hb pi s1 Z H1 Q I1 q1
 |true=>exact#[.bl true,H1,I1,rfl,q1]
def ZG(ha:PE X a ta):PE X (.UnaryOp .Not a pos) (Yi ta):=by
 intro pi s Z H Q I h;refine UnaryOp_ (cE (ha pi s Z H _ I h) λv s1 bp=>?_);let#[x,H1,I1,r1,q1]:=bp;let#[c,rfl,q1]:=q1;cases r1;exact not_of (cG #[.bl (!c),H1,I1,rfl,q1])
abbrev PD(t:TT)(ta tb:TE):TE:=λZ H Q=>t Z H λc H1=>if c=true then ta Z H1 Q else tb Z H1 Q
def Vs(hc:PT X c tA)(ha:PE X a ta)(hb:PE X b tb):PE X (.IfExp c a b pos) (PD tA ta tb):=by
 intro pi s Z H Q I h;refine wpAny_IfExp (cE (hc pi s Z H _ I h) ?_);rintro d s1 ⟨H1,I1,q1⟩;cases d with
 |true=>exact ha pi s1 Z H1 Q I1 q1
 |false=>exact hb pi s1 Z H1 Q I1 q1
end
abbrev fq(K:PySem.W.Frag)(H:Hp)(a:Addr)(xs:List V):Prop :=
 Rd H a (.lst xs) \/
  ∃(o:Obj) (aU:Array Value) (n:Nat),K.lookup a=some o/\o.cls=.type "list"/\o.dict=none/\o.data=.seq aU n/\aU.size<=sizeLine/\Vals xs aU.toList
abbrev ig(K:PySem.W.Frag)(H:Hp)(a:Addr)(xs:List V):Prop :=
 Rd H a (.tup xs) \/
  ∃(o:Obj) (aU:Array Value) (n:Nat),K.lookup a=some o/\o.cls=.type "tuple"/\o.data=.seq aU n/\aU.size<=sizeLine/\Vals xs aU.toList
abbrev SO:Value->Option V
 |.none=>some .br
 |.bool b=>some (.bl b)
 |.int i _=>some (.int i)
 |.str x _=>some (.str x)
 |.bytes b _=>some (.lB b)
 |.float b _=>some (.sH b)
 |.ref a=>some (.ref a)
 |.type n=>some (.ty n)
 |_=>none
def RelV.abs{x}(r:RelV x u):SO u=some x:=by
 cases x with
 |br=>cases r;rfl
 |bl _=>cases r;rfl
 |int _=>let#[t,rfl]:=r;rfl
 |str _=>let#[t,rfl]:=r;rfl
 |lB _=>let#[t,rfl]:=r;rfl
 |sH _=>let#[t,rfl]:=r;rfl
 |ref _=>cases r;rfl
 |ty _=>cases r;rfl
def RelV.inj{x y}{u}(r:RelV x u)(q:RelV y u):x=y:=aG (r.abs.symm.trans q.abs)
def Vals.inj{xs ys}{us}(h:Vals xs us)(h':Vals ys us):xs=ys:=by
 induction h generalizing ys with
 |nil=>cases h';rfl
 |cons r t ih =>
  cases h' with
  |cons r' t'=>rw[r.inj r',ih t']
section
variable{ys:List V}
def fq.of(h:H a=some (.lst xs)):fq K H a xs:=.inl (.inl h)
def Inv.list(I:Inv X pi Z H s)(h:fq X.K H a xs):∃aU:List Value,Vals xs aU/\PlainL s.heap a aU.toArray/\xs.length<=sizeLine:=by
 rcases h with h|⟨o,aU,n,hk,hc,hd,hs,hz,r⟩
 ·let#[z,aU,n,r,e]:=h.ok I.bJ;exact#[aU,r,#[_,n,e,rfl,rfl,rfl],z]
 ·refine#[aU.toList,r,#[o,n,I.gA a o hk,hc,hd,by simpa using hs],?_];have e:=r.length
  grind
def Inv.tuple(I:Inv X pi Z H s)(h:ig X.K H a xs):∃aU:List Value,Vals xs aU/\IsTup s.heap a aU.toArray/\xs.length<=sizeLine:=by
 rcases h with h|⟨o,aU,n,hk,hc,hs,hz,r⟩
 ·let#[z,aU,r,p]:=h.ok I.bJ;exact#[aU,r,p.tup,z]
 ·refine#[aU.toList,r,#[o,I.gA a o hk,hc,n,by simpa using hs],?_];have e:=r.length;simp only[Array.length_toList] at e;omega
def Inv.En(I:Inv X pi Z H s)(h:fq X.K H a xs)(h':fq X.K H a ys):xs=ys:=by
 let#[aU,r,#[o,n,e,_,_,d],_]:=I.list h;let#[its',r',#[o',n',e',_,_,d'],_]:=I.list h';rw[e] at e';cases e';rw[d] at d';injection d' with d1 _;have:aU=its':=by simpa using cT Array.toList d1
 subst this;exact r.inj r'
def Inv.a62(I:Inv X pi Z H s)(h:ig X.K H a xs)(h':ig X.K H a ys):xs=ys:=by
 let#[aU,r,#[o,e,_,n,d],_]:=I.tuple h;let#[its',r',#[o',e',_,n',d'],_]:=I.tuple h';rw[e] at e';cases e';rw[d] at d';injection d' with d1 _;have:aU=its':=by simpa using cT Array.toList d1
 subst this;exact r.inj r'
end
noncomputable abbrev Cx.pV(X:Cx)(E:Value->Shared->Prop):Cx:={ X with xe:=E }
def Cx.Ok.pV{X:Cx}(ok:X.Ok)(E:Value->Shared->Prop):(X.pV E).Ok :=
 #[ok.mod,ok.kind,ok.glob,ok.blt,ok.above,ok.inj,ok.has,ok.gW,ok.hd,ok.frames,ok.rC,ok.wO,ok.bs,ok.nu,ok.kd,ok.kU,ok.Q4,ok.oh]
def Cx.Ok.FT(ok:(X.pV E).Ok):X.Ok :=
 #[ok.mod,ok.kind,ok.glob,ok.blt,ok.above,ok.inj,ok.has,ok.gW,ok.hd,ok.frames,ok.rC,ok.wO,ok.bs,ok.nu,ok.kd,ok.kU,ok.Q4,ok.oh]
def Inv.pV(I:Inv X pi Z H s)(E:Value->Shared->Prop):Inv (X.pV E) pi Z H s:=#[I.ok.pV E,I.os,I.bare,I.base,I.loc,I.cell,I.free,I.eK,I.pin,I.bJ,I.len,I.sg]
def Inv.FT(I:Inv (X.pV E) pi Z H s):Inv X pi Z H s:=#[I.ok.FT,I.os,I.bare,I.base,I.loc,I.cell,I.free,I.eK,I.pin,I.bJ,I.len,I.sg]
section
variable{st:Stmt}{rest:List Stmt}{t u:TS}
abbrev JK:TS:=λD Z H=>D.nx Z H
abbrev b44(t u:TS):TS:=λD Z H=>t { D with nx:=u D } Z H
def Tp:jd X [] JK:=λ_ _ Z H _ I h=>jQ #[Z,H,I,h]
def VF(h1:PS X st t)(h2:jd X rest u):jd X (st::rest) (b44 t u):=by
 intro pi s Z H D I h;refine wpAny_execs_cons (cE (h1 pi s Z H { D with nx:=u D } I h) λf s1 q=>?_);cases f with
 |next =>
  let#[bV,H',I',q]:=q;exact h2 pi s1 bV H' D I' q
 |ret v=>exact q
 |brk=>exact q
 |cont=>exact q
def Tn:PS X (.Pass pos) JK:=λ_ _ Z H _ I h=>wpAny_Pass #[Z,H,I,h]
def Inv.quiet(I:Inv X pi Z H s):interactive X.env=false:=by simp[interactive,I.ok.kind]
abbrev Yh(te:TE):TS:=λD Z H=>te Z H λ_ H1=>D.nx Z H1
def Tj(he:PE X e te)(hs:swapsWith e none pos.line X.env=pure false:=by rfl):PS X (.Expr e pos) (Yh te):=by
 intro pi s Z H D I h;exact wpAny_Expr_any (cE (he pi s Z H _ I h) (by rintro v s1 ⟨x,H1,I1,r1,q1⟩;exact #[Z,H1,I1,q1])) I.quiet hs
abbrev b45(te:TE):TS:=λD Z H=>te Z H D.rt
def ZQ(he:PE X e te):PS X (.Return (some e) pos) (b45 te):=by
 intro pi s Z H D I h;exact wpAny_Return_some (cE (he pi s Z H _ I h) (by rintro v s1 ⟨x,H1,I1,r1,q1⟩;exact #[x,Z,H1,I1,r1,q1]))
abbrev Yk:TS:=λD _ H=>D.rt .br H
def To:PS X (.Return none pos) Yk:=λ_ _ Z H _ I h=>wpAny_Return_none #[.br,Z,H,I,rfl,h]
abbrev b49(c:TT)(t u:TS):TS:=λD Z H=>c Z H λb H1=>if b=true then t D Z H1 else u D Z H1
def XO{a b}{tc}(hc:PT X c tc)(ha:jd X a t)(hb:jd X b u):PS X (.If c a b pos) (b49 tc t u):=by
 intro pi s Z H D I h;refine wpAny_If (cE (hc pi s Z H _ I h) ?_);rintro d s1 ⟨H1,I1,q1⟩;cases d with
 |true=>exact ha pi s1 Z H1 D I1 q1
 |false=>exact hb pi s1 Z H1 D I1 q1
end
noncomputable abbrev TG:=V->St->Hp->(St->Hp->Prop)->Prop
noncomputable abbrev rf:=List V->St->Hp->(St->Hp->Prop)->Prop
abbrev PG(X:Cx)(target:Expr)(t:TG):Prop :=
 ∀(pi:List (Addr×Obj)) (s:Shared) (Z:St) (H:Hp) (v:V) (u:Value) (Q:St->Hp->Prop),Inv X pi Z H s->RelV v u->t v Z H Q ->
  wpAny (model X.prog X.w) X.A (assign target X.env u) (λ_ s'=>∃bV H',Inv X pi bV H' s'/\Q bV H') X.xe s
abbrev yd(X:Cx)(ts:List Expr)(t:rf):Prop :=
 ∀(pi:List (Addr×Obj)) (s:Shared) (Z:St) (H:Hp) (vs:List V) (us:List Value) (Q:St->Hp->Prop),Inv X pi Z H s->Vals vs us->t vs Z H Q ->
  wpAny (model X.prog X.w) X.A (assignInOrder ((assignEach ts X.env).map (·.2)) us) (λ_ s'=>∃bV H',Inv X pi bV H' s'/\Q bV H') X.xe s
noncomputable abbrev DQ:=V->V->V->Hp->(Hp->Prop)->Prop
abbrev DP(X:Cx)(t:DQ):Prop :=
 ∀(pi:List (Addr×Obj)) (s:Shared) (Z:St) (H:Hp) (o i v:V) (ov iv u:Value) (Q:Hp->Prop),Inv X pi Z H s->RelV o ov->RelV i iv->RelV v u->t o i v H Q ->
  wpAny (model X.prog X.w) X.A (setItem ov iv u) (λ_ s'=>∃H',Inv X pi Z H' s'/\Q H') X.xe s
noncomputable abbrev GN:=V->V->Hp->VK->Prop
abbrev OS(X:Cx)(op:Operator)(t:GN):Prop :=
 ∀(pi:List (Addr×Obj)) (s:Shared) (Z:St) (H:Hp) (x y:V) (v u:Value) (Q:VK),Inv X pi Z H s->RelV x v->RelV y u->t x y H Q ->
  wpAny (model X.prog X.w) X.A (inplaceOp op v u) (EP X pi Z Q) X.xe s
abbrev qR(i:Nat):TG:=λv Z H Q=>Q (Z.set i (some v)) H
def MD(hN:X.Nd)(hi:X.N[i]?=some x)(hx:Loc X.env.scope x)(hf:X.fn x=true\/X.env.scope.names.lookup x=some .local:=by first|exact .inl rfl|exact .inr rfl|assumption):PG X (.Name x pos) (qR i):=by
 intro pi s Z H v u Q I r h;exact oK (Et I hN hi hx r (λs' I'=>#[_,H,I',h]) hf)
abbrev Kk:rf:=λvs Z H Q=>vs=[]/\Q Z H
abbrev Jr(t:TG)(u:rf):rf:=λvs Z H Q=>∃v r,vs=v::r/\t v Z H λbV H'=>u r bV H' Q
def Tg:yd X [] Kk:=by
 intro pi s Z H vs us Q I r h;let#[e,h]:=h;exact assignInOrder_nil #[Z,H,I,h]
def Vx{t}{u}(h1:PG X e t)(h2:yd X es u)(hs:(assignEach (e::es) X.env).map (·.2)=assign e X.env::(assignEach es X.env).map (·.2):=by rfl):yd X (e::es) (Jr t u):=by
 intro pi s Z H vs us Q I r h;let#[v,vr,e1,h]:=h;subst e1;cases r with
 |cons r rr =>
  rw[hs];refine assignInOrder_cons (cE (h1 pi s Z H _ _ _ I r h) λ_ s1 bp=>?_);let#[iN,H1,I1,q1]:=bp;exact h2 pi s1 iN H1 _ _ Q I1 rr q1
abbrev DX(K:PySem.W.Frag)(n:Nat)(t:rf):TG:=λv Z H Q=>∃a xs,v=.ref a/\ig K H a xs/\xs.length=n/\t xs Z H Q
def FK{t}{n}(hc:X.calm=true)(h:yd X es t)(hn:(assignEach es X.env).length=n:=by rfl)(fA:(assignEach es X.env).findIdx? (·.1)=none:=by rfl):PG X (.Tuple es k pos) (DX X.K n t):=by
 intro pi s Z H v u Q I r hw;let#[a,xs,e1,hq,hl,hw]:=hw;subst e1;cases r;let#[aU,rv,ht,hz]:=I.tuple hq;refine assign_Tuple_tuple (I.ok.hd hc) ht (by simp[hn,<- hl,rv.length]) fA λh' hx=>?_;have I1:Inv X pi Z H { s with heap:=h' }:=I.kept (t':=s.toks) λb o e=>hx b o (aN (aC e)) e;exact h pi _ Z H xs _ Q I1 (by simpa using rv) hw
abbrev b94(to ti:TE)(t:DQ):TG:=λv Z H Q=>to Z H λo H1=>ti Z H1 λi H2=>t o i v H2 λH3=>Q Z H3
def ZK{o i}{to ti}{t}(ho:PE X o to)(hi:PE X i ti)(hs:DP X t)(ha:∀ v,assign (.Subscript o i pos) X.env v=(do
   let ov <- holding [v] (eval o X.env)
   let iv <- holding [v,ov] (eval i X.env)
   standAt pos
   holding [v,ov,iv] (setItem ov iv v)
   release [v,ov,iv] []):=by intro _;rfl):PG X (.Subscript o i pos) (b94 to ti t):=by
 intro pi s Z H v u Q I r h;rw[ha];refine ae (bB (cE (ho pi s Z H _ I h) λov s1 bp=>?_));let#[x,H1,I1,r1,q1]:=bp;refine ae (bB (cE (hi pi s1 Z H1 _ I1 q1) λiv s2 bp=>?_));let#[y,H2,I2,r2,q2]:=bp;refine ae (cZ (ae (bB (cE (hs pi s2 Z H2 x y v ov iv u _ I2 r1 r2 r q2) ?_))));rintro _ s3 ⟨H3,I3,q3⟩;exact wpAny_release #[Z,H3,I3,q3]
abbrev uU(te:TE)(g:TG):TS:=λD Z H=>te Z H λx H1=>g x Z H1 D.nx
def Oz{g}(he:PE X e te)(hg:PG X tg g)(hs:swapsWithSole [tg] e pos.line X.env=pure false:=by rfl)(hw:swappedStores [tg] e X.env=pure none:=by rfl)(h1:(assignEach [tg] X.env).map (·.2)=[assign tg X.env]:=by rfl):PS X (.Assign [tg] e pos) (uU te g):=by
 intro pi s Z H D I h;refine wpAny_Assign_stores (cE (he pi s Z H _ I h) λv s1 bp=>?_) hs hw;let#[x,H1,I1,r1,q1]:=bp;rw[h1];exact cE (hg pi s1 Z H1 x v _ I1 r1 q1) λ_ s2 q=>q
def FL(hN:X.Nd)(hi:X.N[i]?=some x)(hx:Loc X.env.scope x)(he:PE X e te)(hs:swapsWith e (some (.Name x pos')) pos.line X.env=pure false:=by rfl)(hf:X.fn x=true\/X.env.scope.names.lookup x=some .local:=by first|exact .inl rfl|exact .inr rfl|assumption) :
  PS X (.Assign [.Name x pos'] e pos) (uU te (qR i)):=by
 intro pi s Z H D I h;refine wpAny_Assign_Name (cE (he pi s Z H _ I h) λv s1 bp=>?_) hs;let#[y,H1,I1,r1,q1]:=bp;exact Et I1 hN hi hx r1 (λs2 I2=>#[_,H1,I2,q1]) hf
abbrev b53(i:Nat)(te:TE)(ti:GN):TS:=λD Z H=>∃x,Z[i]?=some (some x)/\te Z H λy H1=>ti x y H1 λz H2=>D.nx (Z.set i (some z)) H2
def ZN{op}{ti}(hN:X.Nd)(hi:X.N[i]?=some x)(hx:Loc X.env.scope x)(he:PE X e te)(ho:OS X op ti)(hf:X.fn x=true\/X.env.scope.names.lookup x=some .local:=by first|exact .inl rfl|exact .inr rfl|assumption) :
  PS X (.AugAssign (.Name x pos') op e pos) (b53 i te ti):=by
 intro pi s Z H D I h;let#[v,e1,h]:=h;let#[m,hn,hl]:=I.loc;have rq:xZ X.env.scope x:=by rcases hx with k|k;exact .inl k;exact .inr (.inl k)
 let#[u,r,l]:=hl i x v hi e1 rq;refine wpAny_AugAssign_Name ?_;have go:wpAny (model X.prog X.w) X.A (eval e X.env) (λw eT=>wpAny (model X.prog X.w) X.A (inplaceOp op u w) (λr dQ=>wpAny (model X.prog X.w) X.A (storeName X.env x r) (λ_=>SP X pi D .next) X.xe dQ) X.xe eT) X.xe s:=by
  refine cE (he pi s Z H _ I h) λw s1 bp=>?_;let#[y,H1,I1,r1,q1]:=bp;refine cE (ho pi s1 Z H1 v y u w _ I1 r r1 q1) λz s2 bp=>?_;let#[zv,H2,I2,r2,q2]:=bp;exact Et I2 hN hi hx r2 (λs3 I3=>#[_,H2,I3,q2]) hf
 rcases l with⟨hk,hm⟩|⟨hk,c,hc,lx⟩
 ·exact wpAny_loadName_local I.ok.kind hk hn hm go
 ·rcases hk with hk|hk
  ·exact wpAny_loadName_cell I.ok.kind hk hc lx go
  ·rcases hx with k|k
   ·have:X.env.scope.names.lookup x=some .free:=hk;rw[k] at this;cases this
   ·have:X.env.scope.names.lookup x=some .free:=hk;rw[k] at this;cases this
abbrev bG8(c:TT)(tb:TS):TS:=λD Z H=>∃W:Nat->St->Hp->Prop,(∃m,W m Z H)/\∀m Z H,W m Z H ->
 c Z H λb H1=>if b=true then ∃N:St->Hp->Prop,(∀bV H',N bV H'->∃m',m'<m/\W m' bV H')/\tb { D with nx:=N,ct:=N,bk:=D.nx } Z H1 else D.nx Z H1
def VE{tc}{tb}(hp:PassesOwn (model X.prog X.w) X.A X.env X.xe)(hc:PT X c tc)(hb:jd X body tb):PS X (.While c body [] pos) (bG8 tc tb):=by
 intro pi s Z H D I h;let#[W,#[m0,w0],turn]:=h;refine wpAny_While (codeAny_whileLoop (λn s'=>∃bV H',Inv X pi bV H' s'/\W n bV H') ?_ m0 #[Z,H,I,w0]);rintro n s1 ⟨iN,H1,I1,w1⟩;refine dZ hp (cE (hc pi s1 iN H1 _ I1 (turn n iN H1 w1)) ?_);rintro b s2 ⟨H2,I2,q2⟩;cases b with
 |true =>
  let#[N,hN,q2]:=q2;refine dZ hp (cE (hb pi s2 iN H2 _ I2 q2) λf s3 q3=>?_);cases f with
  |next =>
   let#[iM,H3,I3,n3]:=q3;let#[m',hm,w3]:=hN iM H3 n3;exact#[m',hm,iM,H3,I3,w3]
  |cont =>
   let#[iM,H3,I3,n3]:=q3;let#[m',hm,w3]:=hN iM H3 n3;exact#[m',hm,iM,H3,I3,w3]
  |brk=>exact q3
  |ret v=>exact q3
 |false =>
  exact jQ #[iN,H2,I2,q2]
structure It where
 go:Nat->Hp->Prop
 nJ:Nat->Hp->V->Hp->Prop
 stop:Nat->Hp->Prop
abbrev K8(X:Cx)(pi:List (Addr×Obj))(H:Hp)(b:Addr):Prop :=
 H b=none/\b≠X.env.locals/\b∉X.fs/\(b∈X.ex\/X.dt.heap.objs.size<=b)/\(∀x c,X.env.cells.lookup x=some c->c≠b)/\∀p∈X.pn++pi,p.1≠b
def Inv.oz(I:Inv X pi Z H s)(hb:s⁻¹<=b)(hn:H' b=none):K8 X pi H' b:=by
 refine#[hn,bI (ay I.lt hb),I.Ec hb,.inr (aD I.sz hb),λx c e z=>?_,λp hp z=>?_]
 ·let#[v,q]:=I.cell x c e;exact absurd (ay q.lt (by simp_all)) (bL _)
 ·exact absurd (ay (aC (I.pin p hp).1) (by simp_all)) (bL _)
structure Turn(P:Program)(w:World)(K:PySem.W.Frag)(tg:Expr)(J:It)(fp:List Addr)(it:Addr)(tn:Nat->Heap->Prop):Prop where
 mem:it∈fp
 obj:∀i h,tn i h->∀b∈fp,∃o,h.get? b=some o/\∀v,o.data≠.cell v
 keep:∀i h h',tn i h->(∀b∈fp,∀o,h.get? b=some o->h'.get? b=some o)->tn i h'
 item:∀(X:Cx),X.prog=P->X.w=w->X.K=K->X.calm=true->∀(i:Nat) (pi:List (Addr×Obj)) (s:Shared) (Z:St) (H:Hp) (E:Value->Shared->Prop),Inv X pi Z H s->(∀b∈fp,K8 X pi H b)->tn i s.heap->J.go i H ->
  wpAny (model P w) X.A (pyNext (.ref it)) (λr s1=>∃ u,r=some u /\
   wpAny (model P w) X.A (letOwnedTupleGo tg (.ref it) u) (λ_ s2=>∃ x H',Inv X pi Z H' s2/\RelV x u/\J.nJ i H x H'/\tn (i + 1) s2.heap/\∀ b ∈ fp,H' b=none) E s1) E s
 done:∀(X:Cx),X.prog=P->X.w=w->X.K=K->X.calm=true->∀(i:Nat) (pi:List (Addr×Obj)) (s:Shared) (Z:St) (H:Hp) (E:Value->Shared->Prop),Inv X pi Z H s->(∀b∈fp,K8 X pi H b)->tn i s.heap->J.stop i H ->
  wpAny (model P w) X.A (pyNext (.ref it)) (λr s1=>r=none/\Inv X pi Z H s1) E s
 self:∀(A:Around) (i:Nat) (s:Shared) (Q:Value->Shared->Prop) (E:Value->Shared->Prop),tn i s.heap->Q (.ref it) s->wpAny (model P w) A (pyIter (.ref it)) Q E s
noncomputable abbrev TI:=St->Hp->(It->Hp->Prop)->Prop
abbrev OT(X:Cx)(pi:List (Addr×Obj))(Z:St)(tg:Expr)(R:It->Hp->Prop)(rT:Value)(s2:Shared):Prop :=
 ∃(it:Addr) (fp:List Addr) (tn:Nat->Heap->Prop) (J:It) (H':Hp),rT=.ref it/\Inv X pi Z H' s2/\Turn X.prog X.w X.K tg J fp it tn/\tn 0 s2.heap/\(∀b∈fp,K8 X pi H' b)/\R J H'
abbrev PI(X:Cx)(tg iter:Expr)(wi:TI):Prop :=
 ∀(pi:List (Addr×Obj)) (s:Shared) (Z:St) (H:Hp) (R:It->Hp->Prop),Inv X pi Z H s->wi Z H R ->
  wpAny (model X.prog X.w) X.A (eval iter X.env) (λv s1=>wpAny (model X.prog X.w) X.A (pyIter v) (OT X pi Z tg R) X.xe s1) X.xe s
def Al{it}{o}{n}{vs}{Q}(ho:s.heap.get? it=some o)(hc:o.cls=.type n)(hd:o.data=.fields vs)(hn:["enumerate","zip","dict_itemiterator","dict_reverseitemiterator","odict_iterator","itertools.zip_longest","itertools.pairwise"].contains n=false)(hQ:Q Unit.unit s):wpAny M A (letOwnedTupleGo tg (.ref it) u) Q E s:=by
  cases tg<;>first
    |exact ak hQ
    | (cases u <;> first
        |exact ak hQ
        | (refine ae (wpAny_load ho ?_)
           rw[hc,hd];change wpAny M A (if(["enumerate","zip","dict_itemiterator","dict_reverseitemiterator","odict_iterator","itertools.zip_longest","itertools.pairwise"].contains n&&vs[0]?==some (rawInt _))=true then _ else _) Q E s;rw[az (by intro h;rw[hn,oR] at h;cases h)];exact ak hQ))
abbrev GQ(K:PySem.W.Frag)(a:Addr):It :=
 #[λi H=>∃xs x,fq K H a xs/\xs[i]?=some x,λi H x H'=>H'=H/\∀xs,fq K H a xs->xs[i]?=some x,λi H=>∃xs,fq K H a xs/\xs.length<=i]
abbrev GP(K:PySem.W.Frag)(a:Addr):It :=
 #[λi H=>∃xs x,ig K H a xs/\xs[i]?=some x,λi H x H'=>H'=H/\∀xs,ig K H a xs->xs[i]?=some x,λi H=>∃xs,ig K H a xs/\xs.length<=i]
abbrev yg(lo:Int)(n:Nat):It:=#[λi _=>i<n,λi H x H'=>H'=H/\x=.int (lo+i),λi _=>n<=i]
def a59(a it:Addr):Turn P w K tg (GQ K a) [it] it (λi h=>h.IsListIter it a i) where
 mem:=by simp
 obj:=λi h st b hb=>by
  have e:b=it:=by simpa using hb
  subst e;let#[o,e,c,d]:=st;exact#[o,e,λv z=>by simp_all]
 keep:=λi h h' st k=>st.at λo e=>k it #[_] o e
 item:=by
  intro X hP hw hK hc i pi s Z H E I hf st hg;subst hP hw hK;let#[xs,x,hq,hx]:=hg;let#[aU,rv,p,hz]:=I.list hq;let#[u,hu,ru]:=rv.get hx;let#[f0,f1,f2,f3,f4,f5]:=hf it #[_];refine wpAny_pyNext_list_item st p.isList (x:=u) (by simpa using hu) λh' lX sb=>?_;have I1:Inv X pi Z H { s with heap:=h' }:=I.turned (t':=s.toks) (λb o hb e=>(sb.2 b hb).trans e) f0 f1 f3 f4 f5;let#[o,e,c,d]:=id lX;exact#[u,rfl,Al (s:={ s with heap:=h' }) e c d ∅ #[x,H,I1,ru,#[rfl,λys hy=>by rw[I.En hy hq];exact hx],lX,λb hb=>(hf b hb).1]]
 done:=by
  intro X hP hw hK hc i pi s Z H E I hf st hg;subst hP hw hK;let#[xs,hq,hx]:=hg;let#[aU,rv,p,hz]:=I.list hq;let#[f0,f1,f2,f3,f4,f5]:=hf it #[_];have hl:=rv.length;exact wpAny_pyNext_list_end (I.ok.hd hc) st p.isList (by simp;omega) λh' eb=>#[rfl,I.turned (t':=s.toks) (λb o hb e=>eb b o hb e) f0 f1 f3 f4 f5]
 self:=λ_ _ _ _ _ st h=>wpAny_pyIter_listiter st h
def aZ3(a it:Addr):Turn P w K tg (GP K a) [it] it (λi h=>h.IsTupleIter it a i) where
 mem:=by simp
 obj:=λi h st b hb=>by
  have e:b=it:=by simpa using hb
  subst e;let#[o,e,c,d]:=st;exact#[o,e,λv z=>by simp_all]
 keep:=λi h h' st k=>st.at λo e=>k it #[_] o e
 item:=by
  intro X hP hw hK hc i pi s Z H E I hf st hg;subst hP hw hK;let#[xs,x,hq,hx]:=hg;let#[aU,rv,p,hz]:=I.tuple hq;let#[u,hu,ru]:=rv.get hx;let#[f0,f1,f2,f3,f4,f5]:=hf it #[_];refine wpAny_pyNext_tuple_item st (show s.heap.IsTuple a aU.toArray from p) (x:=u) (by simpa using hu) λh' lX sb=>?_;have I1:Inv X pi Z H { s with heap:=h' }:=I.turned (t':=s.toks) (λb o hb e=>(sb.2 b hb).trans e) f0 f1 f3 f4 f5;let#[o,e,c,d]:=id lX;exact#[u,rfl,Al (s:={ s with heap:=h' }) e c d ∅ #[x,H,I1,ru,#[rfl,λys hy=>by rw[I.a62 hy hq];exact hx],lX,λb hb=>(hf b hb).1]]
 done:=by
  intro X hP hw hK hc i pi s Z H E I hf st hg;subst hP hw hK;let#[xs,hq,hx]:=hg;let#[aU,rv,p,hz]:=I.tuple hq;let#[f0,f1,f2,f3,f4,f5]:=hf it #[_];have hl:=rv.length;exact wpAny_pyNext_tuple_end (I.ok.hd hc) st (show s.heap.IsTuple a aU.toArray from p) (by simp;omega) λh' eb=>#[rfl,I.turned (t':=s.toks) (λb o hb e=>eb b o hb e) f0 f1 f3 f4 f5]
 self:=λ_ _ _ _ _ st h=>wpAny_pyIter_tupleiter st h
def aZ5(it:Addr)(lo:Int)(n:Nat):Turn P w K tg (yg lo n) [it] it (λi h=>IsRangeIter h it (lo+(i:Nat)*1) ((n:Int)-(i:Nat)) 1) where
 mem:=by simp
 obj:=λi h st b hb=>by
  have e:b=it:=by simpa using hb
  subst e;exact #[_,st,λv z=>by
   have z':Data.fields _=Data.cell v:=z;cases z']
 keep:=λi h h' st k=>k it #[_] _ st
 item:=by
  intro X hP hw hK hc i pi s Z H E I hf st hg;subst hP hw hK;let#[f0,f1,f2,f3,f4,f5]:=hf it #[_];have W:=Walks.range (prog:=X.prog) (w:=X.w) (I.ok.hd hc) it lo 1 n;refine W.item i s _ _ hg st λv h' tk hv lX kk=>?_;let#[t,rfl]:=hv;have I1:Inv X pi Z H { s with heap:=h',toks:=tk }:=I.turned (λb o hb e=>kk b o (by simpa using hb) e) f0 f1 f3 f4 f5;refine#[_,rfl,Al (s:={ s with heap:=h',toks:=tk }) (n:="range_iterator") lX rfl rfl ∅ #[.int (lo+i),H,I1,#[t,?_],#[rfl,rfl],lX,λb hb=>(hf b hb).1]];rw[Int.mul_one]
 done:=by
  intro X hP hw hK hc i pi s Z H E I hf st hg;subst hP hw hK;let#[f0,f1,f2,f3,f4,f5]:=hf it #[_];exact wpAny_pyNext_range_end (I.ok.hd hc) st (by have:n<=i:=hg;omega) λh' eb=>#[rfl,I.turned (t':=s.toks) (λb o hb e=>eb b o hb e) f0 f1 f3 f4 f5]
 self:=λ_ _ _ _ _ st h=>wpAny_pyIter_rangeiter st h
def NB{R}{lo hi}{t u v}{tk}(I:Inv X pi Z H s)(h1:-(2 ^ 62)<=lo)(h2:lo<2 ^ 62)(h3:-(2 ^ 62)<=hi)(h4:hi<2 ^ 62)(q:R (yg lo (hi-lo).toNat) H):wpAny (model X.prog X.w) X.A (pyIter (.ref s⁻¹)) (OT X pi Z tg R) E { s with heap:=s.heap.push { cls:=.type "range",data:=.fields (List.toArray [.int lo t,.int hi u,.int 1 v]) },toks:=tk }:=by
 refine wpAny_pyIter_range (IsRange.new ..) (small_one h1 h2 h3 h4) ?_;have I1:Inv X pi Z H { s with heap:=s.heap.push { cls:=.type "range",data:=.fields (List.toArray [.int lo t,.int hi u,.int 1 v]) },toks:=tk }:=I.kept λb o e=>aj _ e;refine #[(s.heap.push { cls:=.type "range",data:=.fields (List.toArray [.int lo t,.int hi u,.int 1 v]) }).objs.size,[(s.heap.push { cls:=.type "range",data:=.fields (List.toArray [.int lo t,.int hi u,.int 1 v]) }).objs.size],_,_,H,rfl,
  I1.kept (t':=tk) λb o e=>aj _ e,aZ5 _ lo (hi - lo).toNat,?_,λb hb=>?_,q]
 ·have e1:lo+((0:Nat):Int)*1=lo:=by simp
  have e2:(((hi-lo).toNat:Nat):Int)-((0:Nat):Int)=Builtin.Range.rangeSize lo hi 1:=by rw[rangeSize_one];split<;>omega
  rw[e1,e2];exact aB _ rfl
 ·have e:b=(s.heap.push { cls:=.type "range",data:=.fields (List.toArray [.int lo t,.int hi u,.int 1 v]) }).objs.size:=by simpa using hb
  subst e;exact I1.oz (av _) (I1.bJ.fresh (av _))
abbrev b08(ta:TA):TI:=λZ H R=>ta Z H λvs H1=>∃j:Int,vs=[.int j]/\-(2 ^ 62)<=j/\j<2 ^ 62/\R (yg 0 j.toNat) H1
abbrev b07(ta:TA):TI:=λZ H R=>ta Z H λvs H1=>∃i j:Int,vs=[.int i,.int j]/\(-(2 ^ 62)<=i/\i<2 ^ 62/\-(2 ^ 62)<=j/\j<2 ^ 62)/\R (yg i (j-i).toNat) H1
def a89{a}{ta}(hg:Gl X "range")(hm:X.mg "range"=none)(ha:PA X [a] ta)(hs:starEach [a] X.env=[(false,eval a X.env)]:=by rfl):PI X tg (.Call (.Name "range" p) [a] [] pos) (b08 ta):=by
 intro pi s Z H R I h;refine Call_ (T4 I hg hm boot_range (bR (cE (ha pos pi s Z H _ I h) λus s1 bp=>?_) hs rfl));let#[vs,H1,I1,r1,q1]:=bp;let#[j,e,q1,q2,q]:=q1;subst e;cases r1 with
 |cons r rr =>
  cases rr;let#[t,rfl]:=r;exact call_range_1 (NB I1 () () q1 q2 (by simpa using q))
def a88{a b}{ta}(hg:Gl X "range")(hm:X.mg "range"=none)(ha:PA X [a,b] ta)(hs:starEach [a,b] X.env=[(false,eval a X.env),(false,eval b X.env)]:=by rfl)(hJ:starEach [b] X.env=[(false,eval b X.env)]:=by rfl) :
  PI X tg (.Call (.Name "range" p) [a,b] [] pos) (b07 ta):=by
 intro pi s Z H R I h;refine Call_ (T4 I hg hm boot_range (bR (cE (ha pos pi s Z H _ I h) λus s1 bp=>?_) (by rw[hs,hJ]) (by rw[hJ];rfl)));let#[vs,H1,I1,r1,q1]:=bp;let#[i,j,e,#[q1,q2,q3,q4],q]:=q1;subst e;cases r1 with
 |cons r rr =>
  cases rr with
  |cons r' rr =>
   cases rr;let#[t,rfl]:=r;let#[t',rfl]:=r';exact call_range_2 (NB I1 q1 q2 q3 q4 q)
abbrev b50(wi:TI)(g:TG)(tb:TS):TS:=λD Z H=>wi Z H λJ H1=>∃W:Nat->Nat->St->Hp->Prop,(∃m,W 0 m Z H1)/\∀i m Z H,W i m Z H ->
 (J.stop i H/\D.nx Z H)\/(J.go i H/\∃N:St->Hp->Prop,(∀bV H',N bV H'->∃m',m'<m/\W (i+1) m' bV H')/\∀x H',J.nJ i H x H'->g x Z H' λcz H2=>tb { D with nx:=N,ct:=N,bk:=D.nx } cz H2)
abbrev xD(fp:List Addr)(h:Heap):List (Addr×Obj):=fp.filterMap λb=>(h.get? b).map λo=>(b,o)
def EW{o}(hb:b∈fp)(e:h.get? b=some o):(b,o)∈xD fp h:=jW.mpr #[b,hb,by rw[e];rfl]
def Xi{p}(hp:p∈xD fp h):p.1∈fp/\h.get? p.1=some p.2:=by
 let#[b,hb,e]:=jW.mp hp;cases q:h.get? b with
 |none=>simp_all
 |some o =>
  rw[q] at e;have e':(b,o)=p:=aG e;subst e';exact#[hb,q]
def Inv.pinned(I:Inv X pi Z H s)(hf:∀b∈fp,K8 X pi H b)(ho:∀b∈fp,∃o,s.heap.get? b=some o/\∀v,o.data≠.cell v):Inv X (pi++xD fp s.heap) Z H s :=
 I.xK λp hp=>(bD.mp hp).elim (λz=>I.pin p (bQ _ z)) λz=>by
  let#[hb,e]:=Xi z;let#[f0,f1,f2,_]:=hf p.1 hb;let#[o,e',d]:=ho p.1 hb;rw[e] at e';cases e';exact#[e,f0,f1,f2,d]
def Inv.Eu{pl}(I:Inv X (pi++pl) Z H s):Inv X pi Z H s:=I.xK λp hp=>I.pin p (bQ _ (eh _ hp))
def ZP{iter}{wi}{g}{tb}(hp:PassesOwn (model X.prog X.w) X.A X.env X.xe)(hc:X.calm=true)(hi:PI X tg iter wi)(hg:PG X tg g)(hb:jd X body tb)(hs:∀x,foldedSetIterable iter X.env x=pure x:=by intro _;rfl):PS X (.For tg iter body [] pos) (b50 wi g tb):=by
 intro pi s Z H D I h;refine wpAny_For (cE (hi pi s Z H _ I h) λv s1 h1=>cE h1 λrT s2 h2=>?_) hs;let#[it,fp,tn,J,H2,e,I2,T,jj,f2,W,#[m0,w0],turn]:=h2;subst e;have rD:∀{H':Hp},(∀b∈fp,H' b=none)->∀b∈fp,K8 X pi H' b:=λhn b hb=>#[hn b hb,(f2 b hb).2]
 refine codeAny_forLoop_any (λn s'=>∃i bV H',Inv X pi bV H' s'/\tn i s'.heap/\(∀b∈fp,H' b=none)/\W i n bV H') ?_ m0 #[0,Z,H2,I2,jj,λb hb=>(f2 b hb).1,w0];rintro n s3 ⟨i,iM,H3,I3,vk,wN,w3⟩;rcases turn i n iM H3 w3 with⟨stop,qn⟩|⟨go,N,hN,step⟩
 ·refine dZ hp (cE (T.done X rfl rfl rfl hc i pi s3 iM H3 X.xe I3 (rD wN) vk stop) ?_);rintro r s4 ⟨hr,I4⟩;subst hr;exact jQ #[iM,H3,I4,qn]
 ·refine dZ hp (cE (T.item X rfl rfl rfl hc i pi s3 iM H3 X.xe I3 (rD wN) vk go) ?_);rintro r s4 ⟨u,hr,h4⟩;subst hr;refine dZ hp (cE h4 λ_ s5 bp=>?_);let#[x,H5,I5,r5,y5,rE,Dx]:=bp;have GS:=I5.pinned (rD Dx) (T.obj _ _ rE);refine dZ hp (cE (hg _ s5 iM H5 x u _ GS r5 (step x H5 y5)) λ_ s6 bp=>?_);let#[rn,H6,I6,q6]:=bp;refine dZ hp (cE (hb _ s6 rn H6 _ I6 q6) λf s7 q7=>?_);have again:∀{mF:St} {H7:Hp},Inv X (pi++xD fp s5.heap) mF H7 s7->N mF H7->∃m,m<n/\∃i bV H',Inv X pi bV H' s7/\tn i s7.heap/\(∀b∈fp,H' b=none)/\W i m bV H':=λ{mF H7} I7 n7=>by
   let#[m',hm,w7]:=hN mF H7 n7;refine#[m',hm,i+1,mF,H7,I7.Eu,T.keep _ _ _ rE λb hb o e=>(I7.pin (b,o) (bQ _ (bQ _ (EW hb e)))).1,λb hb=>?_,w7];let#[o,e,d]:=T.obj _ _ rE b hb;exact(I7.pin (b,o) (bQ _ (bQ _ (EW hb e)))).2.1
  cases f with
  |next=>let#[mF,H7,I7,n7]:=q7;exact again I7 n7
  |cont=>let#[mF,H7,I7,n7]:=q7;exact again I7 n7
  |brk=>let#[mF,H7,I7,q7]:=q7;exact#[mF,H7,I7.Eu,q7]
  |ret v=>let#[x7,mF,H7,I7,r7,q7]:=q7;exact#[x7,mF,H7,I7.Eu,r7,q7]
noncomputable abbrev R2:=V->V->Hp->VK->Prop
abbrev fP(X:Cx)(f:Value->Value->Sem Value)(r:R2):Prop :=
 ∀(pi:List (Addr×Obj)) (s:Shared) (Z:St) (H:Hp) (x y:V) (v u:Value) (Q:VK),Inv X pi Z H s->RelV x v->RelV y u->r x y H Q ->
  wpAny (model X.prog X.w) X.A (f v u) (EP X pi Z Q) X.xe s
abbrev AB(X:Cx)(f:Value->Sem Value)(r:V->Hp->VK->Prop):Prop :=
 ∀(pi:List (Addr×Obj)) (s:Shared) (Z:St) (H:Hp) (x:V) (v:Value) (Q:VK),Inv X pi Z H s->RelV x v->r x H Q ->
  wpAny (model X.prog X.w) X.A (f v) (EP X pi Z Q) X.xe s
abbrev p9(X:Cx)(f:Value)(r:List V->Hp->VK->Prop):Prop :=
 ∀(pi:List (Addr×Obj)) (s:Shared) (Z:St) (H:Hp) (xs:List V) (us:List Value) (Q:VK),Inv X pi Z H s->Vals xs us->r xs H Q ->
  wpAny (model X.prog X.w) X.A (call f us) (EP X pi Z Q) X.xe s
abbrev SM(X:Cx)(r:V->Hp->(Bool->Hp->Prop)->Prop):Prop :=
 ∀(pi:List (Addr×Obj)) (s:Shared) (Z:St) (H:Hp) (x:V) (v:Value) (Q:Bool->Hp->Prop),Inv X pi Z H s->RelV x v->r x H Q ->
  wpAny (model X.prog X.w) X.A (truthy v) (TP X pi Z Q) X.xe s
abbrev qh(r:R2)(ta tb:TE):TE:=λZ H Q=>ta Z H λx H1=>tb Z H1 λy H2=>r x y H2 Q
abbrev Px(r:V->Hp->VK->Prop)(ta:TE):TE:=λZ H Q=>ta Z H λx H1=>r x H1 Q
abbrev rI(C:Int->Int->Prop)(g:Int->Int->V):R2:=λx y H Q=>∃i j,x=.int i/\y=.int j/\C i j/\Q (g i j) H
abbrev mf(g:Int->Int->V):R2:=λx y H Q=>∃i j,x=.int i/\y=.int j/\Q (g i j) H
abbrev rU(g:Int->V):V->Hp->VK->Prop:=λx H Q=>∃i,x=.int i/\Q (g i) H
section
variable{a b:Expr}
def DV(ha:PE X a ta)(hb:PE X b tb){R:V->V->Hp->Prop}(I:Inv X pi Z H s)(h:ta Z H λx H1=>tb Z H1 λy H2=>R x y H2){f:Value->Value->Sem Value}(hf:∀v u s2 x y H2,Inv X pi Z H2 s2->RelV x v->RelV y u->R x y H2->wpAny (model X.prog X.w) X.A (f v u) Q X.xe s2) :
  wpAny (model X.prog X.w) X.A (eval a X.env) (λv bz=>wpAny (model X.prog X.w) X.A (eval b X.env) (λu eT=>wpAny (model X.prog X.w) X.A (f v u) Q X.xe eT) X.xe bz) X.xe s:=by
 refine cE (ha pi s Z H _ I h) λv s1 bp=>?_;let#[x,H1,I1,r1,q1]:=bp;refine cE (hb pi s1 Z H1 _ I1 q1) λu s2 bp=>?_;let#[y,H2,I2,r2,q2]:=bp;exact hf v u s2 x y H2 I2 r1 r2 q2
def XI{op}(ho:fP X (binaryOp op) r)(ha:PE X a ta)(hb:PE X b tb):PE X (.BinOp a op b pos) (qh r ta tb):=by
 intro pi s Z H Q I h;exact wpAny_BinOp (DV ha hb I h λv u s2 x y H2 I2 rx ry q=>ho pi s2 Z H2 x y v u Q I2 rx ry q)
def XM{op}{r}(ho:AB X (unaryOp op) r)(ha:PE X a ta):PE X (.UnaryOp op a pos) (Px r ta):=by
 intro pi s Z H Q I h;exact UnaryOp_ (cE (ha pi s Z H _ I h) (by rintro v s1 ⟨x,H1,I1,r1,q1⟩;exact ho pi s1 Z H1 x v Q I1 r1 q1))
def vA{f:Value->Value->Sem Value}{C:Int->Int->Prop}{g:Int->Int->Int}(rule:∀(i j:Int) (t u:Tok) (s:Shared) (Q:Value->Shared->Prop) (E:Value->Shared->Prop),C i j->Q (.int (g i j) s.toks) { s with toks:=s.toks+1 }->wpAny (model X.prog X.w) X.A (f (.int i t) (.int j u)) Q E s) :
  fP X f (rI C λi j=>.int (g i j)):=by
 intro pi s Z H x y v u Q I rx ry h;let#[i,j,rfl,rfl,hc,q]:=h;let#[t,rfl]:=rx;let#[t',rfl]:=ry;exact rule i j t t' s _ _ hc #[.int (g i j),H,I.tok _,#[_,rfl],q]
def uT{f:Value->Value->Sem Value}{g:Int->Int->Int}(rule:∀(i j:Int) (t u:Tok) (s:Shared) (Q:Value->Shared->Prop) (E:Value->Shared->Prop),Q (.int (g i j) s.toks) { s with toks:=s.toks+1 }->wpAny (model X.prog X.w) X.A (f (.int i t) (.int j u)) Q E s) :
  fP X f (mf λi j=>.int (g i j)):=by
 intro pi s Z H x y v u Q I rx ry h;let#[i,j,rfl,rfl,q]:=h;let#[t,rfl]:=rx;let#[t',rfl]:=ry;exact rule i j t t' s _ _ #[.int (g i j),H,I.tok _,#[_,rfl],q]
def Az{f:Value->Value->Sem Value}{g:Int->Int->Bool}(rule:∀(i j:Int) (t u:Tok) (s:Shared) (Q:Value->Shared->Prop) (E:Value->Shared->Prop),Q (.bool (g i j)) s->wpAny (model X.prog X.w) X.A (f (.int i t) (.int j u)) Q E s) :
  fP X f (mf λi j=>.bl (g i j)):=by
 intro pi s Z H x y v u Q I rx ry h;let#[i,j,rfl,rfl,q]:=h;let#[t,rfl]:=rx;let#[t',rfl]:=ry;exact rule i j t t' s _ _ #[.bl (g i j),H,I,rfl,q]
abbrev DN(i j:Int):Prop:=0<j/\j<1073741824
abbrev oq(i j:Int):Prop:=0<=j/\j<=1000000/\i.natAbs<2 ^ 64
abbrev sN(i j:Int):Prop:=(-(2 ^ 64)<i/\i<2 ^ 64)\/(-(2 ^ 64)<j/\j<2 ^ 64)
def sN.ok{i j}(h:sN i j):IntMulOk i j:=by
 rcases h with⟨h1,h2⟩|⟨h1,h2⟩
 ·exact .of_left (intBits_le_64 h1 h2)
 ·exact .of_right (intBits_le_64 h1 h2)
def Zl:fP X (binaryOp .Add) (mf λi j=>.int (i+j)):=uT λ_ _ _ _ _ _ _ q=>add_int q
def Zv:fP X (binaryOp .Sub) (mf λi j=>.int (i-j)):=uT λ_ _ _ _ _ _ _ q=>sub_int q
def Zr:fP X (binaryOp .Mult) (rI sN λi j=>.int (i*j)):=vA λ_ _ _ _ _ _ _ hc q=>mul_int q hc.ok
def bB3:fP X (binaryOp .FloorDiv) (rI DN λi j=>.int (i / j)):=vA λi j _ _ _ _ _ hc q=>by
 have h1:(0:Int)<j:=hc.1;have h2:j<1073741824:=hc.2;exact floordiv_int () (by rw[Int.fdiv_eq_ediv_of_nonneg i ()];exact q) (.inl (PyProof.noPylong_small ()))
def Zq:fP X (binaryOp .Mod) (rI (λ_ j=>0<j) λi j=>.int (i % j)):=vA λi j _ _ _ _ _ hc q=>by
 exact mod_int' () (by rw[Int.fmod_eq_emod_of_nonneg i ()];exact q)
def Zs:fP X (binaryOp .Pow) (rI oq λi j=>.int (i ^ j.toNat)):=vA λ_ _ _ _ _ _ _ hc q=>pow_int_small hc.1 hc.2.1 hc.2.2 q
def Zu:fP X (binaryOp .LShift) (rI oq λi j=>.int (i*2 ^ j.toNat)):=vA λ_ _ _ _ _ _ _ hc q=>lshift_int_small hc.1 hc.2.1 hc.2.2 q
def Zm:fP X (binaryOp .BitAnd) (mf λi j=>.int (Builtin.bitAnd i j)):=uT λ_ _ _ _ _ _ _ q=>and_int q
def XD:fP X (binaryOp .BitOr) (mf λi j=>.int (Builtin.bitOr i j)):=uT λ_ _ _ _ _ _ _ q=>or_int q
def bD2:fP X (inplaceOp .Add) (mf λi j=>.int (i+j)):=uT λ_ _ _ _ _ _ _ q=>iadd_int q
def bD1:fP X (inplaceOp .Sub) (mf λi j=>.int (i-j)):=uT λ_ _ _ _ _ _ _ q=>isub_int q
def Pq{f:Value->Sem Value}{g:Int->Int}(rule:∀(i:Int) (t:Tok) (s:Shared) (Q:Value->Shared->Prop) (E:Value->Shared->Prop),Q (.int (g i) s.toks) { s with toks:=s.toks+1 }->wpAny (model X.prog X.w) X.A (f (.int i t)) Q E s) :
  AB X f (rU λi=>.int (g i)):=by
 intro pi s Z H x v Q I rx h;let#[i,rfl,q]:=h;let#[t,rfl]:=rx;exact rule i t s _ _ #[.int (g i),H,I.tok _,#[_,rfl],q]
def bG0:AB X (unaryOp .USub) (rU λi=>.int (-i)):=Pq λ_ _ _ _ _ q=>neg_int q
end
abbrev Ky:V->V->Bool
 |.br,.br=>true|.br,.int _=>true|.int _,.br=>true|.br,.bl _=>true|.bl _,.br=>true|.br,.str _=>true|.str _,.br=>true
 |.int _,.int _=>true|.bl _,.bl _=>true|.str _,.str _=>true|.lB _,.lB _=>true
 |.int _,.str _=>true|.str _,.int _=>true|.bl _,.str _=>true|.str _,.bl _=>true
 |_,_=>false
abbrev PZ:R2:=λx y H Q=>Ky x y=true/\Q (.bl (decide (x=y))) H
abbrev PY:R2:=λx y H Q=>Ky x y=true/\Q (.bl (!decide (x=y))) H
def Mi{i j}:decide (V.int i=V.int j)=(i==j):=by
 rw[bf];simp
def zh{i j}:decide (V.bl i=V.bl j)=(i==j):=by
 rw[bf];simp
def Mj{i j}:decide (V.str i=V.str j)=(i==j):=by
 rw[bf];simp
def Mh{i j}:decide (V.lB i=V.lB j)=(i.toList==j.toList):=by
 rw[bf];simp
section
variable{a b:Expr}{tc:TE}
def n8{Q}{k k'}(I:Inv X pi Z H s)(q:Q (.bl k) H)(e:k=k'):EP X pi Z Q (.bool k') s:=by
 subst e;exact#[.bl k,H,I,rfl,q]
def GI:fP X (compareOp .Eq) PZ:=by
 intro pi s Z H x y v u Q I rx ry h;let#[hs,q]:=h;cases x with
 |br =>
  cases rx;cases y with
  |br=>cases ry;exact PySem.EqNone.eq_none_none (n8 I q #[_])
  |bl j=>cases ry;exact PySem.EqNone.eq_none_bool (n8 I q #[_])
  |int j=>let#[t',rfl]:=ry;exact PySem.EqNone.eq_none_int (n8 I q #[_])
  |str j=>let#[t',rfl]:=ry;exact PySem.EqNone.eq_none_str (n8 I q #[_])
  |_=>exact absurd (show false=true from hs) Bool.false_ne_true
 |bl i =>
  cases rx;cases y with
  |br=>cases ry;exact PySem.EqNone.eq_bool_none (n8 I q #[_])
  |bl j=>cases ry;exact eq_bool (n8 I q zh)
  |str j=>let#[t',rfl]:=ry;exact PySem.EqMixed.eq_bool_str (n8 I q #[_])
  |_=>exact absurd (show false=true from hs) Bool.false_ne_true
 |int i =>
  let#[t,rfl]:=rx;cases y with
  |br=>cases ry;exact PySem.EqNone.eq_int_none (n8 I q #[_])
  |int j=>let#[t',rfl]:=ry;exact eq_int (n8 I q Mi)
  |str j=>let#[t',rfl]:=ry;exact PySem.EqMixed.eq_int_str (n8 I q #[_])
  |_=>exact absurd (show false=true from hs) Bool.false_ne_true
 |str i =>
  let#[t,rfl]:=rx;cases y with
  |br=>cases ry;exact PySem.EqNone.eq_str_none (n8 I q #[_])
  |bl j=>cases ry;exact PySem.EqMixed.eq_str_bool (n8 I q #[_])
  |int j=>let#[t',rfl]:=ry;exact PySem.EqMixed.eq_str_int (n8 I q #[_])
  |str j=>let#[t',rfl]:=ry;exact eq_str (n8 I q Mj)
  |_=>exact absurd (show false=true from hs) Bool.false_ne_true
 |lB i =>
  let#[t,rfl]:=rx;cases y with
  |lB j=>let#[t',rfl]:=ry;exact PySem.W.eq_bytes (n8 I q Mh)
  |_=>exact absurd (show false=true from hs) Bool.false_ne_true
 |_=>cases y<;>exact absurd (show false=true from hs) bY
def GJ:fP X (compareOp .NotEq) PY:=by
 intro pi s Z H x y v u Q I rx ry h;let#[hs,q]:=h;cases x with
 |br =>
  cases rx;cases y with
  |br=>cases ry;exact PySem.EqNone.ne_none_none (n8 I q #[_])
  |bl j=>cases ry;exact PySem.EqNone.ne_none_bool (n8 I q #[_])
  |int j=>let#[t',rfl]:=ry;exact PySem.EqNone.ne_none_int (n8 I q #[_])
  |str j=>let#[t',rfl]:=ry;exact PySem.EqNone.ne_none_str (n8 I q #[_])
  |_=>exact absurd (show false=true from hs) Bool.false_ne_true
 |bl i =>
  cases rx;cases y with
  |br=>cases ry;exact PySem.EqNone.ne_bool_none (n8 I q #[_])
  |bl j=>cases ry;exact ne_bool (n8 I q (congrArg not zh))
  |str j=>let#[t',rfl]:=ry;exact PySem.EqMixed.ne_bool_str (n8 I q #[_])
  |_=>exact absurd (show false=true from hs) Bool.false_ne_true
 |int i =>
  let#[t,rfl]:=rx;cases y with
  |br=>cases ry;exact PySem.EqNone.ne_int_none (n8 I q #[_])
  |int j=>let#[t',rfl]:=ry;exact ne_int (n8 I q (congrArg not Mi))
  |str j=>let#[t',rfl]:=ry;exact PySem.EqMixed.ne_int_str (n8 I q #[_])
  |_=>exact absurd (show false=true from hs) Bool.false_ne_true
 |str i =>
  let#[t,rfl]:=rx;cases y with
  |br=>cases ry;exact PySem.EqNone.ne_str_none (n8 I q #[_])
  |bl j=>cases ry;exact PySem.EqMixed.ne_str_bool (n8 I q #[_])
  |int j=>let#[t',rfl]:=ry;exact PySem.EqMixed.ne_str_int (n8 I q #[_])
  |str j=>let#[t',rfl]:=ry;exact ne_str (n8 I q (congrArg not Mj))
  |_=>exact absurd (show false=true from hs) Bool.false_ne_true
 |lB i =>
  let#[t,rfl]:=rx;cases y with
  |lB j=>let#[t',rfl]:=ry;exact PySem.W.ne_bytes (n8 I q (congrArg not Mh))
  |_=>exact absurd (show false=true from hs) Bool.false_ne_true
 |_=>cases y<;>exact absurd (show false=true from hs) bY
def XC:fP X (compareOp .Lt) (mf λi j=>.bl (decide (i<j))):=Az λ_ _ _ _ _ _ _ q=>lt_int q
def XB:fP X (compareOp .LtE) (mf λi j=>.bl (decide (i<=j))):=Az λ_ _ _ _ _ _ _ q=>le_int q
def XA:fP X (compareOp .Gt) (mf λi j=>.bl (decide (j<i))):=Az λ_ _ _ _ _ _ _ q=>gt_int q
def Xz:fP X (compareOp .GtE) (mf λi j=>.bl (decide (j<=i))):=Az λ_ _ _ _ _ _ _ q=>ge_int q
def Zp:fP X (compareOp .Is) (λx y H Q=>y=.br/\Q (.bl (decide (x=.br))) H):=by
 intro pi s Z H x y v u Q I rx ry h;let#[rfl,q]:=h;cases ry;refine is_none_gen (n8 I q ?_);cases x<;>first
  |(cases rx;rfl)
  |(let#[t,rfl]:=rx;rfl)
def bB2:fP X (compareOp .IsNot) (λx y H Q=>y=.br/\Q (.bl (!decide (x=.br))) H):=by
 intro pi s Z H x y v u Q I rx ry h;let#[rfl,q]:=h;cases ry;refine isnot_none_gen (n8 I q ?_);cases x<;>first
  |(cases rx;rfl)
  |(let#[t,rfl]:=rx;rfl)
def bA3(ho:fP X (compareOp op) r)(ha:PE X a ta)(hb:PE X b tb)(hm:behindInMarks op b=false):PE X (.Compare a [op] [b] pos) (qh r ta tb):=by
 intro pi s Z H Q I h;exact wpAny_Compare1 (DV ha hb I h λv u s2 x y H2 I2 rx ry q=>ho pi s2 Z H2 x y v u Q I2 rx ry q) hm
abbrev xp(t:TE):TT:=λZ H Q=>t Z H λx H'=>∃k,x=.bl k/\Q k H'
def MI(ho:fP X (compareOp op) r)(ha:PE X a ta)(hb:PE X b tb)(hm:behindInMarks op b=false):PT X (.Compare a [op] [b] pos) (xp (qh r ta tb)):=by
 intro pi s Z H Q I h;refine wpAny_isTrue_Compare1 (cE (ha pi s Z H _ I h) λv s1 ⟨x,H1,I1,r1,q1⟩=>cE (hb pi s1 Z H1 _ I1 q1) λu s2 ⟨y,H2,I2,r2,q2⟩ =>
  cE (ho pi s2 Z H2 x y v u _ I2 r1 r2 q2) λc s3 ⟨z,H3,I3,r3,k,e,q3⟩=>?_) hm
 subst e;cases r3;exact cG #[H3,I3,q3]
abbrev FP(r r':R2)(ta tb tc:TE):TE:=λZ H Q=>ta Z H λx H1=>tb Z H1 λy H2=>r x y H2 λz H3=>∃k,z=.bl k /\
 (if k=true then tc Z H3 λw' H4=>r' y w' H4 Q else Q (.bl false) H3)
def Vq{ir}{r'}(ho:fP X (compareOp op) r)(nV:fP X (compareOp ir) r')(ha:PE X a ta)(hb:PE X b tb)(hc:PE X c tc)(hm:lastMarks [op,ir] [b,c]=false:=by with_unfolding_all rfl):PE X (.Compare a [op,ir] [b,c] pos) (FP r r' ta tb tc):=by
 intro pi s Z H Q I h;refine Compare_chain (cE (ha pi s Z H _ I h) λv s1 ⟨x,H1,I1,r1,q1⟩=>chain_link (cE (hb pi s1 Z H1 _ I1 q1) λu s2 ⟨y,H2,I2,r2,q2⟩ =>
  cE (ho pi s2 Z H2 x y v u _ I2 r1 r2 q2) λd s3 ⟨z,H3,I3,r3,k,e,q3⟩=>?_)) hm
 subst e;cases r3;refine cG ?_;cases k with
 |false=>exact ite_ff #[.bl false,H3,I3,rfl,q3]
 |true=>exact ite_tt (chain_last (cE (hc pi s3 Z H3 _ I3 q3) (by rintro w' s4 ⟨z',H4,I4,r4,q4⟩;exact nV pi s4 Z H4 y z' u w' Q I4 r2 r4 q4)))
def VG{ir}{r'}(ho:fP X (compareOp op) r)(nV:fP X (compareOp ir) r')(ha:PE X a ta)(hb:PE X b tb)(hc:PE X c tc)(hm:lastMarks [op,ir] [b,c]=false:=by with_unfolding_all rfl):PT X (.Compare a [op,ir] [b,c] pos) (xp (FP r r' ta tb tc)):=by
 intro pi s Z H Q I h;refine isTrue_chain (cE (ha pi s Z H _ I h) λv s1 ⟨x,H1,I1,r1,q1⟩=>test_link (cE (hb pi s1 Z H1 _ I1 q1) λu s2 ⟨y,H2,I2,r2,q2⟩ =>
  cE (ho pi s2 Z H2 x y v u _ I2 r1 r2 q2) λd s3 ⟨z,H3,I3,r3,k,e,q3⟩=>?_)) hm
 subst e;cases r3;refine cG ?_;cases k with
 |false =>
  let#[k',e',q']:=q3;cases e';exact ite_ff #[H3,I3,q']
 |true =>
  refine ite_tt (test_last (cE (hc pi s3 Z H3 _ I3 q3) ?_));rintro w' s4 ⟨z',H4,I4,r4,q4⟩;refine cE (nV pi s4 Z H4 y z' u w' _ I4 r2 r4 q4) λd' s5 bp=>?_;let#[z2,H5,I5,r5,k2,e2,q5]:=bp;subst e2;cases r5;exact cG #[H5,I5,q5]
abbrev DS(K:PySem.W.Frag)(x:V)(H:Hp)(k:Bool):Prop :=
 match x with
 |.br=>k=false
 |.bl b=>k=b
 |.int i=>k=(i != 0)
 |.str y=>y.length<=sizeLine/\k=((y.length:Int) != 0)
 |.lB y=>y.size<=sizeLine/\k=((y.size:Int) != 0)
 |.ref p=>(∃xs,fq K H p xs/\k=!xs.isEmpty)\/(∃xs,ig K H p xs/\k=!xs.isEmpty)\/∃kvs,H p=some (.dK kvs)/\k=!kvs.isEmpty
 |_=>False
def a30{κ:Type}{kvs:List (κ×V)}{vs:List (κ×Value)}(r:KV kvs vs):(!vs.isEmpty)=!kvs.isEmpty:=by
 cases r<;>rfl
def La{aU}(r:Vals xs aU):(!aU.toArray.isEmpty)=!xs.isEmpty:=by
 cases r<;>simp
def zk:(sizeLine:Nat)<2 ^ 63:=by rw[kq];decide
def bG2:SM X (λx H Q=>∃k,DS X.K x H k/\Q k H):=by
 intro pi s Z H x v Q I rx h;let#[k,e,q]:=h;have hs:sizeLine=16777216:=kq;cases x with
 |br =>
  cases rx;have e':k=false:=e;subst e';exact truthy_none #[H,I,q]
 |bl b =>
  cases rx;have e':k=b:=e;subst e';exact cG #[H,I,q]
 |int i =>
  let#[t,rfl]:=rx;have e':k=(i != 0):=e;subst e';exact PySem.P.truthy_int #[H,I,q]
 |str y =>
  let#[t,rfl]:=rx;obtain⟨hy,e'⟩:y.length<=sizeLine/\k=((y.length:Int) != 0):=e;subst e';exact PySem.P.truthy_str () #[H,I.tok _,q]
 |lB y =>
  let#[t,rfl]:=rx;obtain⟨hy,e'⟩:y.size<=sizeLine/\k=((y.size:Int) != 0):=e;subst e';exact PySem.W.truthy_bytes () #[H,I.tok _,q]
 |ref p =>
  cases rx;have e':(∃xs,fq X.K H p xs/\k=!xs.isEmpty)\/(∃xs,ig X.K H p xs/\k=!xs.isEmpty)\/∃kvs,H p=some (.dK kvs)/\k=!kvs.isEmpty:=e;rcases e' with⟨xs,hx,e'⟩|⟨xs,hx,e'⟩|⟨kvs,hx,e'⟩
  ·subst e';let#[aU,r,pl,hz]:=I.list hx;have hlen:=r.length;exact wpAny_truthy_list pl.isList (by simp only[List.size_toArray];omega) #[H,I.tok _,by rw[La r];exact q]
  ·subst e';let#[aU,r,pl,hz]:=I.tuple hx;have hlen:=r.length;exact truthy_tuple pl (by simp only[List.size_toArray];omega) #[H,I.tok _,by rw[La r];exact q]
  ·subst e';obtain⟨hz,hS,vs,r,m⟩:kvs.length<=sizeLine/\(p==sysModules)=false/\∃vs,KV kvs vs/\s.heap.DictOf (m4 X.prog X.w) p vs:=I.bJ p _ hx;have hlen:kvs.length=vs.length:=lW r;exact wpAny_truthy_dict hS m () #[H,I.tok _,by rw[a30 r];exact q]
 |_=>exact(show False from e).elim
def VH(ha:PE X a ta)(he:∀whole,isTrue a X.env whole=(do let v <- whole;standAt a.pos;holding [v] (truthy v))) :
  PT X a (λZ H Q=>ta Z H λx H'=>∃k,DS X.K x H' k/\Q k H'):=by
 intro pi s Z H Q I h;exact isTrue_plain (cE (ha pi s Z H _ I h) (by rintro v s1 ⟨x,H1,I1,r1,q1⟩;exact bG2 pi s1 Z H1 x v Q I1 r1 q1)) (he _)
def vals1{x}(r:Vals [x] us):∃u,us=[u]/\RelV x u:=by
 cases r with
 |cons r1 r2=>cases r2;exact#[_,rfl,r1]
def vals2{x y}(r:Vals [x,y] us):∃u w',us=[u,w']/\RelV x u/\RelV y w':=by
 cases r with
 |cons r1 r2 =>
  cases r2 with
  |cons r3 r4=>cases r4;exact#[_,_,rfl,r1,r3]
def NS:p9 X (.type "int") (λxs H Q=>(∃i,xs=[.int i]/\Q (.int i) H)\/∃k,xs=[.bl k]/\Q (.int (if k then 1 else 0)) H):=by
 intro pi s Z H xs us Q I r h;rcases h with⟨i,rfl,q⟩|⟨k,rfl,q⟩
 ·let#[u,rfl,t,rfl]:=vals1 r;exact call_int_int #[.int i,H,I,#[_,rfl],q]
 ·let#[u,rfl,r1]:=vals1 r;cases r1;exact call_int_bool #[.int (if k then 1 else 0),H,I.tok _,#[_,rfl],q]
end
structure sP(h:Heap)(x dx C:Addr)(mA:Str->Option Value):Prop where
 obj:h.get? x=some (PySem.W.instObj C dx)
 ns:h.Ns1 dx mA
 ne:dx≠x
def Of{mA}(n:h.Ns1 dx mA):∃od,h.get? dx=some od/\∀name,PySem.W.lookIn name od=some (mA name):=by
 let#[o,es,ep,ho,hd,hk,_,hm]:=n;refine#[o,ho,λname=>?_];have e:=hm name;unfold nsFind findBy at e;rw[<- Array.find?_toList] at e;unfold PySem.W.lookIn;rw[hd];dsimp only;split
 ·rename_i y q;rw[q] at e;exact cT some e
 ·rename_i q;rw[q] at e;have a:es.toList.any (·.refKey)=false:=by
   rw[gM];intro y hy;let#[z,t,lO]:=hk y (Array.mem_toList_iff.mp hy);simp[DictEntry.refKey,lO]
  have a':¬es.toList.any (·.refKey)=true:=by rw[a];exact bY
  rw[az a'];exact cT some e
def sP.look{x}{mA}(I:sP h x dx C mA):∃od,PySem.W.InstAt h x (PySem.W.instObj C dx) C (some od)/\∀name,PySem.W.lookIn name od=some (mA name) :=
 let ⟨od,ho,hl⟩:=Of I.ns
 #[od,#[I.obj,rfl,rfl,ho],hl]
section
variable{prog:Program}{x:Addr}{mA:Str->Option Value}{name:Str}{v:Value}
def get_map{expr}(X:K.In s.heap)(I:sP s.heap x dx C mA)(hg:PySem.W.plainGet K C name=true)(hh:PySem.W.hasDictIn K C=true)(ha:PySem.W.findIn K (.ref C) name=some none)(hv:mA name=some v)(vP:PySem.W.handedIn v=true)(h:Q v { s with toks:=s.toks+1 }) :
  wpAny (model prog w) A (getAttr (.ref x) name expr) Q E s:=by
 let#[od,J,hl]:=I.look;exact PySem.W.get_value X J (jA hg).1 (PySem.W.findObj_own hh ha rfl (by rw[hl,hv])) vP h
def UR{pl}{Q}(X:K.In s.heap)(I:sP s.heap x dx C mA)(hg:PySem.W.plainGet K C name=true)(hf:PySem.W.findIn K (.ref C) name=some (some (.ref f)))(ht:PySem.W.isFn K (.ref f)=true)(hv:mA name=none)(h:Q (.ref f,[.ref x]) s) :
  wpAny (model prog w) A (getMethod (.ref x) name pl) Q E s:=by
 let#[od,J,hl]:=I.look;exact PySem.W.method_fn X J (jA hg).1 (jA hg).2 hf (eX.mp ht) (by show(PySem.W.lookIn name od).map (·.isSome)=some false;simp_all) h
def TQ{ns}{Q}(X:K.In s.heap)(I:sP s.heap x dx C mA)(hs:PySem.W.findIn K (.ref C) "__setattr__"=some (some (.builtin "object.__setattr__")))(hp:PySem.W.plainOver K C=true)(ht:PySem.W.takerIn K C name=some none)(hh:PySem.W.hasDictIn K C=true)(hw:PySem.Within mA ns)(hsz:ns.length<=sizeLine)(h:∀h',sP h' x dx C (λy=>if y=name then some v else mA y)->Heap.SameBut dx s.heap h'->Q Unit.unit { s with heap:=h',toks:=s.toks+2 }) :
  wpAny (model prog w) A (setAttr (.ref x) name v) Q E s:=by
 let#[od,J,hl]:=I.look;refine PySem.W.set_plain X J hs (PySem.W.osa_open (s:={ s with toks:=s.toks+1 }) (r:=none) X J hp ht λb=>?_);let#[cd,hc,Cd]:=PySem.W.any_some hh;have hx:s.heap.get? x=some #[.ref C,some dx,.plain,(List.toArray [])]:=I.obj;refine ae (ak (ae (ae (wpAny_loadPart hx (ae (PySem.W.Looks.here (s:={ s with toks:=s.toks+1 }) (PySem.W.looks_clsIn X hc) ?_))))));rw[Cd];refine ak (a:=some dx) (ae (ak (ae ?_)));refine wpAny_nsSet1 (s:={ s with toks:=s.toks+1 }) I.ns λh' pv hJ=>?_;let#[oD,esD,epD,QP,Rq,Rv]:=pv.count (PySem.Within.cons name v hw);refine ae (wpAny_lookBehind QP (by rw[Rq];exact pastItsLine_dict (aD Rv (by grind))) ?_);exact ak (h _ #[(hJ.2 _ (aZ I.ne)).trans I.obj,pv,I.ne] hJ)
def Vd{R}{vs}{kw}(X:K.In s.heap)(hm:PySem.W.makesIn K C=true)(hi:PySem.W.findIn K (.ref C) "__init__"=some (some (.ref f)))(hf:PySem.W.typeIn K (.ref f)=some (.type "function"))(h:codeAny (model prog w) (A.under (.builtin "type.__call__" #[.ref C :: vs,kw])) (.call (.ref f) #[.ref (s⁻¹ + 1) :: vs,kw]) (PySem.W.InitBack (s⁻¹ + 1) R)
   { s with heap:=(s.heap.push PySem.W.emptyDict).push (PySem.W.instObj C s⁻¹) }) :
  codeAny (model prog w) A (.call (.ref C) #[vs,kw]) R s:=by
 exact PySem.W.make_core (PySem.W.makes_of X hm) (PySem.W.looks_findIn X hi) (λself=>PySem.W.bind_fn X self hf) (.inl rfl) h
end
abbrev y9(f:Str)(v:V):List (Str×V)->List (Str×V)
 |[]=>[(f,v)]
 |(g,x)::r=>if g=f then(g,v)::r else(g,x)::y9 f v r
def Lz(f g:Str)(v:V):∀fs:List (Str×V),(y9 f v fs).lookup g=if g=f then some v else fs.lookup g
 |[]=>by
  change List.lookup g [(f,v)]=_;by_cases h:g=f
  ·have hb:(g==f)=true:=eX.mpr h;simp only[List.lookup,hb,if_pos h]
  ·have hb:(g==f)=false:=eE.mpr h;simp only[List.lookup,hb,if_neg h]
 |(k,x)::r=>by
  have ih:=Lz f g v r;rw[show y9 f v ((k,x)::r)=(if k=f then(k,v)::r else(k,x)::y9 f v r) from rfl];by_cases hk:k=f
  ·rw[aH hk];by_cases h:g=k
   ·have hb:(g==k)=true:=eX.mpr h;simp only[List.lookup,hb,if_pos (h.trans hk)]
   ·have hb:(g==k)=false:=eE.mpr h;simp only[List.lookup,hb,if_neg (λe:g=f=>h (e.trans hk.symm))]
  ·rw[az hk];by_cases h:g=k
   ·have hb:(g==k)=true:=eX.mpr h;simp only[List.lookup,hb,if_neg (λe:g=f=>hk (h.symm.trans e))]
   ·have hb:(g==k)=false:=eE.mpr h;simp only[List.lookup,hb];exact ih
def EA(f:Str)(v:V):∀fs:List (Str×V),f∈(y9 f v fs).map (·.1)/\∀g,g∈fs.map (·.1)->g∈(y9 f v fs).map (·.1)
 |[]=>#[by simp[y9],λg h=>by simp at h]
 |(k,x)::r=>by
  let#[i1,i2]:=EA f v r;rw[show y9 f v ((k,x)::r)=(if k=f then(k,v)::r else(k,x)::y9 f v r) from rfl];by_cases hk:k=f
  ·rw[aH hk]
   grind
  ·rw[az hk];refine#[?_,λg h=>?_]
   ·exact bX _ i1
   ·rcases aF.mp h with e|e
    ·exact aF.mpr (.inl e)
    ·exact bX _ (i2 g e)
def Ly(f:Str)(v:V):∀fs:List (Str×V),(y9 f v fs).length<=fs.length+1
 |[]=>by simp[y9]
 |(k,x)::r=>by
  have ih:=Ly f v r;rw[show y9 f v ((k,x)::r)=(if k=f then(k,v)::r else(k,x)::y9 f v r) from rfl]
  grind
def J0.some_of{o}(r:J0 (some v) o):∃u,o=some u/\RelV v u:=by
 cases o with
 |none=>exact(show False from r).elim
 |some u=>exact#[u,rfl,r]
def J0.none_of{o}(r:J0 none o):o=none:=by
 cases o with
 |none=>rfl
 |some u=>exact(show False from r).elim
def WQ(r:RelV v u):PySem.W.handedIn u=true:=by
 cases v with
 |br=>cases (show u=Value.none from r);rfl
 |bl b=>cases (show u=Value.bool b from r);rfl
 |int i=>let#[t,e]:=(show ∃t,u=Value.int i t from r);cases e;rfl
 |str x=>let#[t,e]:=(show ∃t,u=Value.str x t from r);cases e;rfl
 |lB b=>let#[t,e]:=(show ∃t,u=Value.bytes b t from r);cases e;rfl
 |sH b=>let#[t,e]:=(show ∃t,u=Value.float b t from r);cases e;rfl
 |ref a=>cases (show u=Value.ref a from r);rfl
 |ty n=>cases (show u=Value.type n from r);rfl
section
variable{fs:List (Str×V)}
def zz(bJ:gc P w H h)(e:H a=some (.ins C dx fs)):∃mA,sP h a dx C mA/\(∀f,J0 (fs.lookup f) (mA f))/\PySem.Within mA (fs.map (·.1))/\fs.length<=1000/\H dx=some (.own a):=by
 let#[d,z,ne,ob,mA,n,r,q]:=(show p6 P w H h a (.ins C dx fs) from bJ a _ e)
 exact#[mA,#[ob,n,ne],r,q,z,d]
end
structure je(K:PySem.W.Frag)(C:Addr):Prop where
 pg:PySem.W.plainGet K C Str.empty=true
 hd:PySem.W.hasDictIn K C=true
 po:PySem.W.plainOver K C=true
 sa:PySem.W.findIn K (.ref C) "__setattr__"=some (some (.builtin "object.__setattr__"))
def je.get(c:je K C)(f:Str):PySem.W.plainGet K C f=true:=c.pg
abbrev D9(K:PySem.W.Frag)(C:Addr)(f:Str):Prop:=PySem.W.findIn K (.ref C) f=some none
def D9.Yn{f}(n:D9 K C f):PySem.W.takerIn K C f=some none:=by
 unfold PySem.W.takerIn;rw[show PySem.W.findIn K (.ref C) f=some none from n]
 rfl
structure Meth(K:PySem.W.Frag)(C:Addr)(m:Str)(f:Addr):Prop where
 at_:PySem.W.findIn K (.ref C) m=some (some (.ref f))
 fn:PySem.W.isFn K (.ref f)=true
 kp:PySem.W.keepIn K (.ref f)=true
section
variable{fs:List (Str×V)}{f:Str}
def KY{b}(I:Inv X pi Z H s)(e:H a=some (.ins C dx fs))(c:je X.K C)(n:D9 X.K C f)(l:fs.lookup f=some v)(h:∀u s',Inv X pi Z H s'->RelV v u->Q u s'):wpAny (model X.prog X.w) A (getAttr (.ref a) f b) Q E s:=by
 let#[mA,O,r,_,_,_]:=zz I.bJ e;let#[u,hu,ru]:=J0.some_of (v:=v) (o:=mA f) (by rw[<- l];exact r f);exact get_map I.gA O (c.get f) c.hd n hu (WQ ru) (h u _ (I.tok _) ru)
def KZ{g}{pl}{Q}(I:Inv X pi Z H s)(e:H a=some (.ins C dx fs))(c:je X.K C)(k:Meth X.K C m g)(l:fs.lookup m=none)(h:Q (.ref g,[.ref a]) s):wpAny (model X.prog X.w) A (getMethod (.ref a) m pl) Q E s:=by
 let#[mA,O,r,_,_,_]:=zz I.bJ e;have hn:mA m=none:=J0.none_of (by rw[<- l];exact r m);exact UR I.gA O (c.get m) k.at_ k.fn hn h
def Li{y}{Q}(I:Inv X pi Z H s)(e:H a=some (.ins C dx fs))(c:je X.K C)(n:D9 X.K C f)(hl:fs.length<1000)(ry:RelV y u)(h:∀s',Inv X pi Z (upd H a (.ins C dx (y9 f y fs))) s'->Q Unit.unit s'):wpAny (model X.prog X.w) A (setAttr (.ref a) f u) Q E s:=by
 let#[mA,O,r,wi,_,ho]:=zz I.bJ e;have hz:(fs.map (·.1)).length<=sizeLine:=by rw[ai,kq];omega
 refine TQ I.gA O c.sa c.po n.Yn c.hd wi hz λh' O' sb=>h _ ?_;have hd:∃o,h'.get? dx=some o:=let ⟨o,_,_,e',_⟩:=O'.ns;#[o,e']
 refine I.write (x:=a) (e:=dx) (by rw[e];exact True.intro) (.inr ho) (λb q hb z=>(sb.2 b hb).trans z) hd ?_;refine#[by rw[d0 O.ne];exact ho,?_,O.ne,O'.obj,_,O'.ns,λg=>?_,λg hg=>?_]
 ·have:=Ly f y fs;omega
 ·change J0 ((y9 f y fs).lookup g) (if g=f then some u else mA g);rw[Lz];by_cases q:g=f
  ·rw[aH q,aH q];exact ry
  ·rw[az q,az q];exact r g
 ·by_cases q:g=f
  ·rw[q];exact(EA f y fs).1
  ·refine(EA f y fs).2 g (wi g λz=>hg ?_);show(if g=f then some u else mA g)=none;rw[az q];exact z
def Inv.made(I:Inv X pi Z H s):Inv X pi Z (upd (upd H s⁻¹ (.own (s⁻¹+1))) (s⁻¹+1) (.ins C s⁻¹ []))
  { s with heap:=(s.heap.push PySem.W.emptyDict).push (PySem.W.instObj C s⁻¹) }:=by
 have e1:(s.heap.push PySem.W.emptyDict).get? s⁻¹=some PySem.W.emptyDict:=aB s.heap rfl;have e2:((s.heap.push PySem.W.emptyDict).push (PySem.W.instObj C s⁻¹)).get? (s⁻¹+1)=some (PySem.W.instObj C s⁻¹):=by
  have:=aB (s.heap.push PySem.W.emptyDict) (o:=PySem.W.instObj C s⁻¹) rfl
  rwa [dM] at this
 have e3:(s.heap.push PySem.W.emptyDict).Ns s⁻¹ (λ_=>none):=#[PySem.W.emptyDict,(List.toArray []),_,e1,rfl,(λe he=>absurd he #[_]),λ_=>rfl]
 have I1:=I.laid (a:=s⁻¹) (o:=.own (s⁻¹+1)) (h':=s.heap.push PySem.W.emptyDict) (t':=s.toks) (λb u q=>aj _ q) (av _) #[_,e1];refine I1.laid (a:=s⁻¹+1) (o:=.ins C s⁻¹ []) (t':=s.toks) (λb u q=>aj _ q) (Nat.le_of_eq (dM _ _)) ?_;have ne:s⁻¹≠s⁻¹+1:=aN (lG _);refine#[by rw[d0 ne,k6],bO _,ne,e2,λ_=>none,(Heap.Ns1.of_empty e3).at λo q=>aj _ q,λ_=>True.intro,λy hy=>absurd rfl hy]
def bE7{prog}{env}(hb:attributeBase e f env (eval e env)=eval e env)(h:wpAny (model prog w) A (eval e env) (λo bz=>wpAny (model prog w) A (getAttr o f true) Q E bz) E s):wpAny (model prog w) A (eval (.Attribute e f pos) env) Q E s :=
 Attribute_any_ h (by rw[arm_eval_Attribute,hb])
end
abbrev b51(K:PySem.W.Frag)(ta:TE)(f:Str):TE:=λZ H Q=>ta Z H λx H1=>∃a C dx fs v,x=.ref a/\H1 a=some (.ins C dx fs)/\je K C/\D9 K C f/\fs.lookup f=some v/\Q v H1
abbrev b61(K:PySem.W.Frag)(ta tv:TE)(f:Str):TS:=λD Z H=>tv Z H λy H1=>ta Z H1 λx H2=>∃a C dx fs,x=.ref a/\H2 a=some (.ins C dx fs)/\je K C/\D9 K C f/\fs.length<1000 /\
 D.nx Z (upd H2 a (.ins C dx (y9 f y fs)))
abbrev DO(X:Cx)(op:Operator)(rd:V->V->Hp->VK->Prop):Prop :=
 ∀(pi:List (Addr×Obj)) (s:Shared) (Z:St) (H:Hp) (x y:V) (u v:Value) (Q:VK),Inv X pi Z H s->RelV x u->RelV y v->rd x y H Q->wpAny (model X.prog X.w) X.A (inplaceOp op u v) (EP X pi Z Q) X.xe s
abbrev Tt(K:PySem.W.Frag)(ta tv:TE)(rd:V->V->Hp->VK->Prop)(f:Str):TS:=λD Z H=>ta Z H λx H1=>∃a C dx fs v,x=.ref a/\H1 a=some (.ins C dx fs)/\je K C/\D9 K C f/\fs.lookup f=some v /\
 tv Z H1 λy H2=>rd v y H2 λz H3=>∃uq ja,H3 a=some (.ins C uq ja)/\ja.length<1000/\D.nx Z (upd H3 a (.ins C uq (y9 f z ja)))
section
variable{o value:Expr}{f:Str}{vi:Pos}{tv:TE}
def ZC(he:PE X e ta)(hb:attributeBase e f X.env (eval e X.env)=eval e X.env):PE X (.Attribute e f pos) (b51 X.K ta f):=by
 intro pi s Z H Q I h;refine bE7 hb (cE (he pi s Z H _ I h) λu s1 bp=>?_);let#[x,H1,I1,rx,a,C,dx,fs,v,ex,ea,c,n,l,q]:=bp;subst ex;obtain rfl:u=Value.ref a:=rx;exact KY I1 ea c n l λu' s2 I2 ru=>#[v,H1,I2,ru,q]
def ZO(ha:PE X o ta)(hv:PE X value tv)(hs:swapsWith value (some (.Attribute o f pos')) pos.line X.env=pure false):PS X (.Assign [.Attribute o f pos'] value pos) (b61 X.K ta tv f):=by
 intro pi s Z H D I h;refine plainObj_wpAny_Assign_Attribute (cE (hv pi s Z H _ I h) ?_) hs;rintro u s1 ⟨y,H1,I1,ry,q⟩;refine cE (ha pi s1 Z H1 _ I1 q) λov s2 bp=>?_;let#[x,H2,I2,rx,a,C,dx,fs,ex,ea,c,n,l,q2]:=bp;subst ex;obtain rfl:ov=Value.ref a:=rx;exact Li I2 ea c n l ry λs3 I3=>#[Z,_,I3,q2]
def a84{op}{rd}(ha:PE X o ta)(hv:PE X value tv)(BL:DO X op rd):PS X (.AugAssign (.Attribute o f vi) op value pos) (Tt X.K ta tv rd f):=by
 intro pi s Z H D I h;refine wpAny_AugAssign_AttributeAny (cE (ha pi s Z H _ I h) λov s1 bp=>?_);let#[x,H1,I1,rx,a,C,dx,fs,v,ex,ea,c,n,l,q]:=bp;subst ex;obtain rfl:ov=Value.ref a:=rx;refine KY I1 ea c n l λu s2 I2 ru=>cE (hv pi s2 Z H1 _ I2 q) ?_;rintro w3 s3 ⟨y,H2,I3,ry,q3⟩;refine cE (BL pi s3 Z H2 v y u w3 _ I3 ru ry q3) λw4 s4 bp=>?_;let#[z,H3,I4,rz,uq,ja,Sy,l',q4]:=bp;exact Li I4 Sy c n l' rz λs5 I5=>#[Z,_,I5,q4]
abbrev b71:V->V->Hp->VK->Prop:=λx y H Q=>∃i j,x=.int i/\y=.int j/\Q (.int (i+j)) H
def YR:DO X .Add b71:=by
 rintro pi s Z H x y u v Q I rx ry ⟨i,j,rfl,rfl,q⟩;let#[t,rfl]:=(show ∃t,u=Value.int i t from rx)
 let#[t',rfl]:=(show ∃t',v=Value.int j t' from ry)
 exact PyProof.Rows.iadd_int #[.int (i+j),H,I.tok _,#[_,rfl],q]
end
section
variable{c:Value}{b:Bool}
inductive gX(K:PySem.W.Frag)(H:Hp):V->Value->Prop where
 |br:gX K H .br (.type "NoneType")
 |bl (x:Bool):gX K H (.bl x) (.type "bool")
 |int (i:Int):gX K H (.int i) (.type "int")
 |str (x:Str):gX K H (.str x) (.type "str")
 |sH (x:UInt64):gX K H (.sH x) (.type "float")
 |lst {a:Addr} {xs:List V} (e:H a=some (.lst xs)):gX K H (.ref a) (.type "list")
 |jJ {a:Addr} {o:Obj} {xs:List V} (e:H a=some (.jJ o (.lst xs))):gX K H (.ref a) (.type "list")
 |tup {a:Addr} {xs:List V} (e:H a=some (.tup xs)):gX K H (.ref a) (.type "tuple")
 |dK {a:Addr} {kvs:List (Key×V)} (e:H a=some (.dK kvs)):gX K H (.ref a) (.type "dict")
 |dT {a:Addr} {kvs:List (List Key×V)} (e:H a=some (.dT kvs)):gX K H (.ref a) (.type "dict")
 |ins {a C dx:Addr} {fs:List (Str×V)} (e:H a=some (.ins C dx fs)) (cl:je K C) (ha:PySem.W.findIn K (.ref C) "__class__"=some (some (.builtin "object.__class__")))
   (hn:PySem.W.specialIn K (.builtin "object.__class__") "__get__"=some (some (.builtin "getset_descriptor.__get__"))) (tV:PySem.W.takesIn K (.builtin "object.__class__")=some true)
   (hm:PySem.W.mroIn K C (.type "object")=some true):gX K H (.ref a) (.ref C)
def WT{x}{t}(I:Inv X pi Z H s)(rx:RelV x u)(ty:gX X.K H x t)(e:PySem.W.kitOne X.K t c=some b)(h:∀tk,Q (.bool b) { s with toks:=tk }) :
  wpAny (model X.prog X.w) A (call (.builtin "isinstance") [u,c]) Q E s:=by
 cases ty with
 |br=>cases (show u=Value.none from rx);exact cb PySem.W.kitx_none I.gA True.intro e (λz=>nomatch z) h
 |bl y=>cases (show u=Value.bool y from rx);exact cb PySem.W.kitx_bool I.gA True.intro e (λz=>nomatch z) h
 |int i=>let#[t,q]:=(show ∃t,u=Value.int i t from rx);cases q;exact cb PySem.W.kitx_int I.gA True.intro e (λz=>nomatch z) h
 |str y=>let#[t,q]:=(show ∃t,u=Value.str y t from rx);cases q;exact cb PySem.W.kitx_str I.gA True.intro e (λz=>nomatch z) h
 |sH y=>let#[t,q]:=(show ∃t,u=Value.float y t from rx);cases q;exact cb PySem.W.kitx_float I.gA True.intro e (λz=>nomatch z) h
 |@lst a xs ea =>
  cases (show u=Value.ref a from rx);let#[_,_,n,_,h1]:=(show p6 X.prog X.w H s.heap a (.lst xs) from I.bJ a _ ea)
  exact cb PySem.W.kitx_list I.gA #[_,h1,rfl] e (λz=>nomatch z) h
 |@jJ a ob xs ea =>
  cases (show u=Value.ref a from rx);let#[_,_,_,n,_,h1]:=(show p6 X.prog X.w H s.heap a (.jJ ob (.lst xs)) from I.bJ a _ ea)
  exact cb PySem.W.kitx_list I.gA #[_,h1,rfl] e (λz=>nomatch z) h
 |@tup a xs ea =>
  cases (show u=Value.ref a from rx);let#[_,_,_,p]:=(show p6 X.prog X.w H s.heap a (.tup xs) from I.bJ a _ ea)
  let#[o,h1,h2,_]:=p;exact cb Pc I.gA #[o,h1,h2] e (λz=>nomatch z) h
 |@dK a kvs ea =>
  cases (show u=Value.ref a from rx);let#[_,_,vs,_,p]:=(show p6 X.prog X.w H s.heap a (.dK kvs) from I.bJ a _ ea)
  let#[o,es,ep,h1,h2,_]:=p;exact cb PySem.W.kitx_dict I.gA #[o,h1,h2.1] e (λz=>nomatch z) h
 |@dT a kvs ea =>
  cases (show u=Value.ref a from rx);let#[_,_,xs,_,o,es,ep,h1,h2,_]:=(show p6 X.prog X.w H s.heap a (.dT kvs) from I.bJ a _ ea)
  exact cb PySem.W.kitx_dict I.gA #[o,h1,h2.1] e (λz=>nomatch z) h
 |@ins a C dx fs ea cl ha hn tV hm =>
  cases (show u=Value.ref a from rx);let#[mA,O,_]:=zz I.bJ ea;let#[od,J,_]:=O.look;exact cb (PySem.W.kitx_own (cl.get _) cl.hd ha hn tV hm) I.gA J e (λz=>nomatch z) h
end
structure w6(k:Nat)(A:Around):Prop where
 hd:A.handled=none
 dp:A.depth+3*k+5<recursionLimit
 un:A.units+16*k+200<cLine
def w6.mono{j}(r:w6 k A)(h:j<=k):w6 j A:=#[r.hd,by have:=r.dp;omega,by have:=r.un;omega]
def w6.deeper{k}{A}(r:w6 (k+1) A)(env:Env):w6 k (A.deeper env) :=
 #[r.hd,by have:=r.dp;change A.depth+1+3*k+5<_;omega,by have:=r.un;change A.units+3+16*k+200<_;omega]
def a19{kw}:(A.under (.builtin "type.__call__" #[.ref C::us,kw])).depth=A.depth+1:=by
 rfl
def a18{kw}:(A.under (.builtin "type.__call__" #[.ref C::us,kw])).units=A.units+1:=by
 rfl
def w6.make(r:w6 (k+1) A)(C:Addr)(us:List Value)(kw:List (Str×Value)):w6 k (A.under (.builtin "type.__call__" #[.ref C::us,kw])) :=
 #[r.hd,by have:=r.dp;rw[a19];omega,by have:=r.un;rw[a18];omega]
def w6.depth{k}{A}(r:w6 k A):A.depth<recursionLimit:=by have:=r.dp;omega
abbrev Ee:TA:=λ_ H Q=>Q [] H
abbrev Yf(ta:TE)(tr:TA):TA:=λZ H Q=>ta Z H λx H1=>tr Z H1 λxs H2=>Q (x::xs) H2
def uG:PA X [] Ee:=λ_ _ _ _ H Q I h=>Calls.spliced_nil #[[],H,I,.nil,h]
def Z9(ha:PE X e te)(hr:PA X es t)(hs:starEach (e::es) X.env=(false,eval e X.env)::starEach es X.env:=by rfl):PA X (e::es) (Yf te t):=by
 intro pos pi s Z H Q I h;rw[hs];change wpAny _ _ (spliced ((false,eval e X.env)::backTo pos (starEach es X.env))) _ _ s;refine Calls.spliced_cons (cE (ha pi s Z H _ I h) λu s1 bp=>?_);let#[x,H1,I1,r1,q1]:=bp;exact cE (hr pos pi s1 Z H1 _ I1 q1) (by rintro us s2 ⟨xs,H2,I2,r2,q2⟩;exact #[x::xs,H2,I2,.cons r1 r2,q2])
abbrev b43(t:TA):TE:=λZ H Q=>t Z H λxs H1=>xs.length<=sizeLine/\∀p,H1 p=none->Q (.ref p) (upd H1 p (.tup xs))
abbrev b48(t:TA):TE:=λZ H Q=>t Z H λxs H1=>xs.length<=sizeLine/\∀p,H1 p=none->Q (.ref p) (upd H1 p (.lst xs))
def ZJ{x1}(h:PA X es t):PE X (.Tuple es x1 pos) (b43 t):=by
 intro pi s Z H Q I hq;refine wpAny_Tuple_spliced (cE (h pos pi s Z H _ I hq) ?_);rintro us s1 ⟨xs,H1,I1,r,z,q⟩;refine #[by rw[<- r.length];exact z,?_];have hf:H1 s1⁻¹=none:=I1.bJ.fresh (av _);refine#[.ref s1⁻¹,upd H1 s1⁻¹ (.tup xs),I1.laid (t':=s1.toks) (λb u e=>aj _ e) (av _) ?_,rfl,q _ hf];exact#[z,us,r,#[_,aB _ rfl,rfl,#[_,rfl],rfl]]
def ZE(h:PA X es t):PE X (.List es pos) (b48 t):=by
 intro pi s Z H Q I hq;refine wpAny_List_spliced (cE (h pos pi s Z H _ I hq) ?_);rintro us s1 ⟨xs,H1,I1,r,z,q⟩;refine #[by rw[<- r.length];exact z,?_];have hf:H1 s1⁻¹=none:=I1.bJ.fresh (av _);refine#[.ref s1⁻¹,upd H1 s1⁻¹ (.lst xs),I1.laid (t':=s1.toks) (λb u e=>aj _ e) (av _) ?_,rfl,q _ hf];exact#[z,us,0,r,aB _ rfl]
noncomputable abbrev Sp:=List V->Hp->VK->XK->Prop
noncomputable abbrev nH:=List Env->Hp->Shared->XK->Value->Shared->Prop
structure sO(P:Program)(w:World)(K:PySem.W.Frag)(mg:Str->Option Value)(base:Heap)(A:Around)(outer:List Env)(s:Shared)(H:Hp):Prop where
 frames:A.frames=some outer
 mod:Mod K mg base
 bs:∀b o,base.get? b=some o->s.heap.get? b=some o/\H b=none
 nu:base.objs.size<=s⁻¹
 Q4:s.heap.FunFrames base outer
 oh:∀b∈fS outer,H b=none
 bJ:gc P w H s.heap
 bare:AllBare s.gens
abbrev CE(outer:List Env)(P:Program)(w:World)(H:Hp)(s:Shared)(Q:VK)(u:Value)(s':Shared):Prop :=
 ∃v H',s'.os=s.os/\AllBare s'.gens/\Un (fS outer) [] H H' s.heap s'.heap/\gc P w H' s'.heap/\RelV v u/\Q v H'
abbrev CR(CX:nH)(outer:List Env)(P:Program)(w:World)(H:Hp)(s:Shared)(Q:VK)(E:XK)(r:Result)(s':Shared):Prop :=
 match r with
 |.ok (.ret u)=>CE outer P w H s Q u s'
 |.ok _=>False
 |.error e=>CX outer H s E e s'
structure gH(P:Program)(w:World)(K:PySem.W.Frag)(mg:Str->Option Value)(base:Heap)(CX:nH)(k:Nat)(f:Addr)(fd:FuncData)(ps:List Str)(sp:Sp):Prop where
 len:∀vs H Q E,sp vs H Q E->vs.length=ps.length
 run:∀(A:Around) (outer:List Env) (s:Shared) (H:Hp) (args:Args) (us:List Value) (vs:List V) (Q:VK) (E:XK),w6 k A->sO P w K mg base A outer s H->BindsTo s fd args (ps.zip us)->Vals vs us->sp vs H Q E ->
  codeAny (model P w) A (.call (.ref f) args) (CR CX outer P w H s Q E) s
def sO.make{mg}{outer}(e:sO P w K mg base A outer s H)(C:Addr)(us:List Value)(kw:List (Str×Value)) :
  sO P w K mg base (A.under (.builtin "type.__call__" #[.ref C::us,kw])) outer s H:=#[by first|exact e.frames|(simpa[Around.under,Code.envs,Code.isFrame,pushEnvs] using e.frames),e.mod,e.bs,e.nu,e.Q4,e.oh,e.bJ,e.bare]
section
variable{s':Shared}
def Inv.Kj(I:Inv X pi Z H s):sO X.prog X.w X.K X.mg X.base X.A X.stack s H :=
 #[I.ok.frames,I.ok.mod,I.bs,aD I.ok.nu I.sz,I.stack,I.zD,I.bJ,I.bare]
def Inv.after{Q}(I:Inv X pi Z H s)(h:CE X.stack X.prog X.w H s Q u s'):EP X pi Z Q u s':=by
 let#[v,H',os,bare,un,bJ,r,q]:=h;let#[hh,g,d,t,rO]:=s';obtain rfl:rO=s.os:=os;exact#[v,H',I.call (h':=hh) (g':=g) (d':=d) (t':=t) (ch:=[]) un bJ bare (λb z=>absurd z #[_]),r,q]
end
abbrev JI(sp:Sp)(dvs:List V)(E:XK)(t:TA):TE:=λZ H Q=>t Z H λvs H1=>sp (vs++dvs) H1 Q E
abbrev JJ(C:Addr)(sp:Sp)(dvs:List V)(E:XK)(t:TA):TE:=λZ H Q=>t Z H λvs H1=>∀x dx,H1 x=none->H1 dx=none->dx≠x ->
 sp (.ref x::(vs++dvs)) (upd (upd H1 dx (.own x)) x (.ins C dx [])) (λv H2=>v=.br/\Q (.ref x) H2) E
abbrev Binds(K:PySem.W.Frag)(fd:FuncData)(ps:List Str)(ds:List Value):Prop :=
 ∀(s:Shared) (us:List Value),K.In s.heap->(us++ds).length=ps.length->BindsTo s fd #[us,[]] (ps.zip (us++ds))
def Binds.all(h:∀us:List Value,us.length=ps.length->bindArgs fd #[us,[]]=pure (ps.zip us)):Binds K fd ps []:=λs us _ hl=>by
 rw[fQ] at hl ⊢;exact .of_eq (h us hl)
abbrev Passes(CX:nH)(X:Cx)(E:XK):Prop:=∀(pi:List (Addr×Obj)) (Z:St) (H:Hp) (s:Shared) (e:Value) (s':Shared),Inv X pi Z H s->CX X.stack H s E e s'->X.xe e s'
section
variable{dvs:List V}{ds:List Value}{E:XK}
def zo{Q}(F:gH X.prog X.w X.K X.mg X.base CX k f fd ps sp)(hr:w6 k X.A)(hb:Binds X.K fd ps ds)(hd:Vals dvs ds)(hx:Passes CX X E)(I:Inv X pi Z H s)(r:Vals vs us)(h:sp (vs++dvs) H Q E):wpAny (model X.prog X.w) X.A (call (.ref f) us) (EP X pi Z Q) X.xe s:=by
 have r2:Vals (vs++dvs) (us++ds):=r.append hd;have hl:(us++ds).length=ps.length:=by rw[<- r2.length];exact F.len _ _ _ _ h
 refine wpAny_call (gO (F.run X.A X.stack s H #[us,[]] (us++ds) (vs++dvs) Q E hr I.Kj (hb s us I.gA hl) r2 h) λr s' hq=>?_);cases r with
 |error e=>exact hx pi Z H s e s' I hq
 |ok fl =>
  cases fl with
  |ret u=>exact I.after hq
  |next=>exact False.elim hq
  |brk=>exact False.elim hq
  |cont=>exact False.elim hq
def bA4(F:gH X.prog X.w X.K X.mg X.base CX k f fd ps sp)(hr:w6 k X.A)(hg:Gl X x)(hm:X.mg x=some (.ref f))(hk:PySem.W.keepIn X.K (.ref f)=true)(hb:Binds X.K fd ps ds)(hd:Vals dvs ds)(hx:Passes CX X E)(ha:PA X (e::es) t)(hU:(x==("__debug__":Str))=false:=by decide)(he:starEach (e::es) X.env=(false,eval e X.env)::starEach es X.env:=by rfl)(gC:(backTo pos (starEach es X.env)).any (·.1)=false:=by rfl) :
  PE X (.Call (.Name x p) (e::es) [] pos) (JI sp dvs E t):=by
 intro pi s Z H Q I h;refine cO (U6 I hg hm ?_ hU);refine jV (h₀:=X.base) I.ok.mod.mP hk (cE (ha pos pi s Z H _ I h) ?_) he gC;rintro us s1 ⟨vs,H1,I1,r,q⟩;refine #[I1.gA,?_];exact zo F hr hb hd hx I1 r q
def Vp(F:gH X.prog X.w X.K X.mg X.base CX k f fd ps sp)(hr:w6 k X.A)(hg:Gl X x)(hm:X.mg x=some (.ref f))(hk:PySem.W.keepIn X.K (.ref f)=true)(hb:Binds X.K fd ps ds)(hd:Vals dvs ds)(hx:Passes CX X E)(hU:(x==("__debug__":Str))=false:=by decide):PE X (.Call (.Name x p) [] [] pos) (JI sp dvs E Ee):=by
 intro pi s Z H Q I h;refine cO (U6 I hg hm ?_ hU);exact jB I.gA hk (zo (us:=[]) F hr hb hd hx I .nil h)
structure Mk(K:PySem.W.Frag)(C f:Addr):Prop where
 makes:PySem.W.makesIn K C=true
 init:PySem.W.findIn K (.ref C) "__init__"=some (some (.ref f))
 fn:PySem.W.isFn K (.ref f)=true
 kp:PySem.W.keepIn K (.ref C)=true
def NC{Q}(M:Mk X.K C f)(F:gH X.prog X.w X.K X.mg X.base CX k f fd ps sp)(hr:w6 (k+1) X.A)(hb:Binds X.K fd ps ds)(hd:Vals dvs ds)(hx:Passes CX X E)(I:Inv X pi Z H s)(r:Vals vs us)(h:∀x dx,H x=none->H dx=none->dx≠x->sp (.ref x::(vs++dvs)) (upd (upd H dx (.own x)) x (.ins C dx [])) (λv H2=>v=.br/\Q (.ref x) H2) E) :
  wpAny (model X.prog X.w) X.A (call (.ref C) us) (EP X pi Z Q) X.xe s:=by
 have hq:=h (s⁻¹+1) s⁻¹ (I.bJ.fresh (jg _)) (I.bJ.fresh (av _)) (aN (lG _));have I2:=Inv.made (C:=C) I;have r2:Vals (V.ref (s⁻¹+1)::(vs++dvs)) (Value.ref (s⁻¹+1)::(us++ds)):=.cons rfl (r.append hd);have hl:(Value.ref (s⁻¹+1)::us++ds).length=ps.length:=by
  have e:=r2.length;rw[F.len _ _ _ _ hq] at e;exact e.symm
 refine wpAny_call (Vd (f:=f) I.gA M.makes M.init (eX.mp M.fn) (gO (F.run _ X.stack _ _ #[Value.ref (s⁻¹ + 1) :: us,[]] (Value.ref (s⁻¹ + 1) :: (us ++ ds)) _ _ E (hr.make C us [])
  (I2.Kj.make C us []) (hb _ (Value.ref (s⁻¹ + 1) :: us) I2.gA hl) r2 hq) λr s' mT=>?_))
 cases r with
 |error e=>exact hx pi Z _ _ e s' I2 mT
 |ok fl =>
  cases fl with
  |ret u =>
   let#[v,H',I3,rv,ev,q3]:=I2.after mT;subst ev;exact#[rv,#[V.ref (s⁻¹+1),H',I3,rfl,q3]]
  |next=>exact False.elim mT
  |brk=>exact False.elim mT
  |cont=>exact False.elim mT
def bA1(M:Mk X.K C f)(F:gH X.prog X.w X.K X.mg X.base CX k f fd ps sp)(hr:w6 (k+1) X.A)(hg:Gl X x)(hm:X.mg x=some (.ref C))(hb:Binds X.K fd ps ds)(hd:Vals dvs ds)(hx:Passes CX X E)(ha:PA X (e::es) t)(hU:(x==("__debug__":Str))=false:=by decide)(he:starEach (e::es) X.env=(false,eval e X.env)::starEach es X.env:=by rfl)(gC:(backTo pos (starEach es X.env)).any (·.1)=false:=by rfl) :
  PE X (.Call (.Name x p) (e::es) [] pos) (JJ C sp dvs E t):=by
 intro pi s Z H Q I h;refine cO (U6 I hg hm ?_ hU);refine jV (h₀:=X.base) I.ok.mod.mP M.kp (cE (ha pos pi s Z H _ I h) ?_) he gC;rintro us s1 ⟨vs,H1,I1,r,q⟩;refine #[I1.gA,?_];exact NC M F hr hb hd hx I1 r q
def Vu(M:Mk X.K C f)(F:gH X.prog X.w X.K X.mg X.base CX k f fd ps sp)(hr:w6 (k+1) X.A)(hg:Gl X x)(hm:X.mg x=some (.ref C))(hb:Binds X.K fd ps ds)(hd:Vals dvs ds)(hx:Passes CX X E)(hU:(x==("__debug__":Str))=false:=by decide):PE X (.Call (.Name x p) [] [] pos) (JJ C sp dvs E Ee):=by
 intro pi s Z H Q I h;refine cO (U6 I hg hm ?_ hU);exact jB I.gA M.kp (NC (us:=[]) M F hr hb hd hx I .nil h)
end
structure iO(N P:List Str)(sc:Scope):Prop where
 kind:sc.kind=.function
 co:sc.isCoroutine=false
 gen:sc.isGenerator=false
 nd:N.Nodup
 pre:N.take P.length=P
 par:∀x∈P,sc.names.lookup x=some .local\/sc.names.lookup x=some .cell
 mH:∀y∈sc.names,y.2≠.free
def NR{kindOf}{x}:∀{binds:List (Str×Value)} {m:Str->Option Value},(∀v,(x,v)∉binds)->bindL kindOf binds m x=m x
 |[],_,_=>rfl
 |(n,v)::r,m,h=>by
  unfold bindL;rw[NR λw hw=>h w (bX _ hw)];split
  ·have:x≠n:=by rintro rfl;exact h v jX
   simp[this]
  ·rfl
def NP{kindOf}{x}:∀{binds:List (Str×Value)} {m:Str->Option Value},(∀v,(x,v)∉binds)->bindC kindOf binds m x=m x
 |[],_,_=>rfl
 |(n,v)::r,m,h=>by
  unfold bindC;rw[NP λw hw=>h w (bX _ hw)];split
  ·rfl
  ·have:x≠n:=by rintro rfl;exact h v jX
   simp[this]
def NQ{kindOf}{x}{v}:∀{P:List Str} {vs:List Value} {i:Nat} {m:Str->Option Value},P.Nodup->P[i]?=some x->vs[i]?=some v->kindOf x=some .local ->
  bindL kindOf (P.zip vs) m x=some v
 |[],_,_,_,_,h,_,_=>by simp at h
 |_::_,[],_,_,_,_,h,_=>by simp at h
 |p::P,w::vs,0,m,nd,h1,h2,hk=>by
  simp at h1 h2;subst h1;subst h2;change bindL kindOf ((p,w)::P.zip vs) m p=_;unfold bindL;rw[NR λv hv=>(cP.mp nd).1 (mD hv).1,aH hk];simp
 |p::P,w::vs,i+1,m,nd,h1,h2,hk=>by
  unfold bindL;exact NQ (i:=i) (cP.mp nd).2 (by simpa using h1) (by simpa using h2) hk
def NO{kindOf}{x}{v}:∀{P:List Str} {vs:List Value} {i:Nat} {m:Str->Option Value},P.Nodup->P[i]?=some x->vs[i]?=some v->kindOf x≠some .local ->
  bindC kindOf (P.zip vs) m x=some v
 |[],_,_,_,_,h,_,_=>by simp at h
 |_::_,[],_,_,_,_,h,_=>by simp at h
 |p::P,w::vs,0,m,nd,h1,h2,hk=>by
  simp at h1 h2;subst h1;subst h2;change bindC kindOf ((p,w)::P.zip vs) m p=_;unfold bindC;rw[NP λv hv=>(cP.mp nd).1 (mD hv).1,az hk];simp
 |p::P,w::vs,i+1,m,nd,h1,h2,hk=>by
  unfold bindC;exact NO (i:=i) (cP.mp nd).2 (by simpa using h1) (by simpa using h2) hk
abbrev start(N:List Str)(vs:List V):St:=vs.map some++List.replicate (N.length-vs.length) none
abbrev pM(CX:nH)(P:Program)(w:World)(K:PySem.W.Frag)(mg:Str->Option Value)(base:Heap)(N:List Str)(qual:Str)(scope:Scope)(f:Addr)(cd:Value)(A:Around)(outer:List Env)(s:Shared)(H:Hp)(E:XK):Cx where
 prog:=P
 w:=w
 K:=K
 mg:=mg
 base:=base
 A:=A.deeper (envOfC qual scope s⁻¹ f cd)
 N:=N
 dt:=s
 ju:=H
 env:=envOfC qual scope s⁻¹ f cd
 outer:=outer
 stack:=envOfC qual scope s⁻¹ f cd::outer
 ex:=[]
 calm:=true
 fn:=λ_=>true
 pn:=[]
 xe:=λe s'=>wpAny (model P w) (A.deeper (envOfC qual scope s⁻¹ f cd)) (leaving (envOfC qual scope s⁻¹ f cd) e) (λ_ oX=>CX outer H s E e oX) (λe' oX=>CX outer H s E e' oX) s'
def Ej{sc:Scope}{n:Nat}(h:sc.names.lookup x=some .cell):∃c,(cellsFrom n sc.names []).lookup x=some c:=by
 have q:=dH sc.names n [] (.inl h);exact eP.mp q
def WS{mg}{qual}{scope}{cd}{outer}{s1}{E}(S:iO N ps scope)(hd:A.handled=none)(e0:sO P w K mg base A outer s H)(hl:vs.length=ps.length)(r:Vals vs us)(x:InCallC s s⁻¹ (bindL (envOfC qual scope s⁻¹ f cd).kindOf (ps.zip us) λ_=>none) (cellsFrom (s⁻¹+1) scope.names []) (bindC (envOfC qual scope s⁻¹ f cd).kindOf (ps.zip us) λ_=>none) s1) :
  Inv (pM CX P w K mg base N qual scope f cd A outer s H E) [] (start N vs) H s1:=by
 have gC:ps.length<=N.length:=by have:=cT List.length S.pre;grind
 let#[h1,tk,rfl,hk]:=x.done;have vE:∀b:Addr,b∉(pM CX P w K mg base N qual scope f cd A outer s H E).ex:=λb z=>absurd (show b∈([]:List Addr) from z) #[_];refine #[#[e0.mod,S.kind,rfl,rfl,av _,λy z c h1 h2=>?_,λy hy=>?_,λy c _ h=>?_,λ_=>hd,Around.frames_deeper e0.frames,.inr #[rfl,rfl],λb z=>absurd z (vE b),e0.bs,e0.nu,λb _ _=>vE b,λb z=>absurd z (vE b),e0.Q4,e0.oh],
  rfl,e0.bare,Un.kept hk,#[_,x.toInCall.ns,λi y v h1 h2 h3=>?_],λy c h=>#[_,x.cell y c h],e0.bJ.fresh (av _),λy c h=>?_,λp hp=>absurd (show p ∈ ([]:List (Addr × Obj)) from hp) #[_],e0.bJ.kept hk,?_,λcW z=>absurd (show (none:Option (List (Option V)))=some cW from z) #[_]]
 ·exact name_of_addr x.apart (aO h1) (aO h2)
 ·rcases hy with hy|hy
  ·exact Ej hy
  ·exact absurd rfl (S.mH _ (aO hy))
 ·exact dk (x.above y c (aO h))
 ·have hi:i<vs.length:=by
   unfold start at h2;by_cases hi:i<vs.length
   ·exact hi
   ·rw[cV (by simpa using hi)] at h2;rw[dD] at h2
    simp_all
  have ha:vs[i]?=some v:=by
   unfold start at h2;rw[aK (by simpa using hi),ah] at h2;cases e:vs[i]? with
   |none=>rw[e] at h2;cases h2
   |some a=>rw[e] at h2;cases h2;rfl
  let#[u,hu,rv]:=r.get ha;have hp:ps[i]?=some y:=by
   rw[<- S.pre,eQ ()];exact h1
  have HF:ps.Nodup:=by rw[<- S.pre];exact S.nd.sublist (dU _ _)
  refine#[u,rv,?_];rcases S.par y (aJ hp) with k|k
  ·exact .inl #[k,NQ HF hp hu k]
  ·let#[c,e]:=Ej (n:=s⁻¹+1) k;refine .inr #[.inl k,c,e,?_];have q:=x.cell y c e;rw[NO HF hp hu (by change scope.names.lookup y≠_;rw[k];decide)] at q;exact q
 ·exact e0.bJ.fresh (dk (x.above y c (aO h)))
 ·unfold start;change _=N.length
  simp_all
def b12{mg}{name qual}{params}{scope}{dV kV doc pm fN ct oc}{an od}{mh}(lk:K.lookup f=some #[oc,od,.func (PySem.W.fnOf name qual params body scope dV kV doc pm an fN ct),mh])(lP:PySem.W.codeIn K fN qual=true)(S:iO N ps scope)(len:∀vs H Q E,sp vs H Q E->vs.length=ps.length)(wt:∀ (A:Around) (outer:List Env) (s:Shared) (H:Hp) (vs:List V) (Q:VK) (E:XK),w6 k (A.deeper (envOfC qual scope s⁻¹ f fN))->sp vs H Q E ->
   ∃ t,jd (pM CX P w K mg base N qual scope f fN A outer s H E) body t/\t { nx:=λ_ H'=>Q .br H',rt:=Q } (start N vs) H) :
  gH P w K mg base CX (k+1) f (PySem.W.fnOf name qual params body scope dV kV doc pm an fN ct) ps sp:=by
 refine#[len,λA outer s H args us vs Q E hr e0 hb r tW=>?_];have hl:=len _ _ _ _ tW;have KX:K.In s.heap:=e0.mod.mP.keeps λb o e=>(e0.bs b o e).1;have lim:s.heap.NoLimit:=e0.mod.nolimit.keeps λb o e=>(e0.bs b o e).1;have wb:∀y∈ps.zip us,scope.names.lookup y.1=some .local\/(scope.names.lookup y.1=some .cell/\((cellsFrom (s⁻¹+1) scope.names []).lookup y.1).isSome=true):=λ⟨n,v⟩ hy=>by
  rcases S.par n (mD hy).1 with q|q
  ·exact .inl q
  ·exact .inr #[q,dH _ _ _ (.inl q)]
 refine codeAny_call_function hr.depth (KX _ _ lk) rfl S.co S.gen rfl (PySem.W.codeRec_of KX lP) (hb _ _ _ _ ?_);refine wpAny_newFunctionEnv_cells S.kind wb λenv he s1 x=>?_;subst he;refine#[lim.keeps x.toInCall.keep,codeAny_func ?_];let#[t,ht,hq]:=wt A outer s H vs Q E (hr.deeper _) tW;have I:Inv (pM CX P w K mg base N qual scope f fN A outer s H E) [] (start N vs) H s1:=WS S hr.hd e0 hl r x;refine aY (ht [] s1 (start N vs) H _ I hq) (λfl s' hs=>?_) λe s' hs=>hs;have fin:∀{bV:St} {H':Hp} {v:V} {u:Value},Inv (pM CX P w K mg base N qual scope f fN A outer s H E) [] bV H' s'->RelV v u->Q v H'->CE outer P w H s Q u s' :=
  λ{bV H' v u} J rv q=>#[v,H',J.os,J.bare,J.base,J.bJ,rv,q]
 cases fl with
 |ret u =>
  let#[v,bV,H',J,rv,q]:=hs;exact fin J rv q
 |next =>
  let#[bV,H',J,q]:=hs;exact fin (v:=V.br) (u:=Value.none) J rfl q
 |brk =>
  let#[_,_,_,q]:=hs
  simp_all
 |cont =>
  let#[_,_,_,q]:=hs
  simp_all
section
variable{id T:String}{r:List V->Hp->VK->Prop}
abbrev Bf(r:List V->Hp->VK->Prop)(t:TA):TE:=λZ H Q=>t Z H λvs H1=>r vs H1 Q
def zN(hc:p9 X (.builtin id) r)(hg:Gl X x)(hm:X.mg x=none)(hv:bootBuiltins x=some (.builtin id))(ha:PA X (e::es) t)(hn:x≠"__name__":=by decide)(hU:(x==("__debug__":Str))=false:=by decide)(he:starEach (e::es) X.env=(false,eval e X.env)::starEach es X.env:=by rfl)(gC:(backTo pos (starEach es X.env)).any (·.1)=false:=by rfl):PE X (.Call (.Name x p) (e::es) [] pos) (Bf r t):=by
 intro pi s Z H Q I h;refine cO (T4 I hg hm hv ?_ hn hU);exact PyProof.Rows.callWith_builtin1 (cE (ha pos pi s Z H _ I h) (by rintro us s1 ⟨vs,H1,I1,r1,q1⟩;exact hc pi s1 Z H1 vs us Q I1 r1 q1)) he gC
def X5(hc:p9 X (.type T) r)(hg:Gl X x)(hm:X.mg x=none)(hv:bootBuiltins x=some (.type T))(ha:PA X (e::es) t)(hn:x≠"__name__":=by decide)(hU:(x==("__debug__":Str))=false:=by decide)(he:starEach (e::es) X.env=(false,eval e X.env)::starEach es X.env:=by rfl)(gC:(backTo pos (starEach es X.env)).any (·.1)=false:=by rfl):PE X (.Call (.Name x p) (e::es) [] pos) (Bf r t):=by
 intro pi s Z H Q I h;refine cO (T4 I hg hm hv ?_ hn hU);exact bR (cE (ha pos pi s Z H _ I h) (by rintro us s1 ⟨vs,H1,I1,r1,q1⟩;exact hc pi s1 Z H1 vs us Q I1 r1 q1)) he gC
end
end L2
namespace HT
open PySem PyProof.Rows
section
variable{prog:Program}{w:World}{A:Around}{E:Value->Shared->Prop}{s:Shared}
def bE2{t b}{vs ws}{Q}(ht:IsTup s.heap t vs.toArray)(hb:IsTup s.heap b ws.toArray)(hv:vs≠[])(h1:ws=[]->Q (.ref t) s)(h2:ws≠[]->Q (.ref s⁻¹) { s with heap:=s.heap.push { cls:=.type "tuple",data:=.seq (vs++ws).toArray } })(hsz:vs.length+ws.length<=sizeLine):wpAny (model prog w) A (binaryOp .Add (.ref t) (.ref b)) Q E s:=by
 let#[#[cls,dd,data,sl],ho,hc,n,hd]:=id ht;let#[#[xa,qK,data2,kZ],kQ,pB,n2,hd2]:=id hb;subst hc hd pB hd2;have e:vs.toArray++ws.toArray=(vs++ws).toArray:=by simp
 by_cases hw:ws=[]
 ·exact concat_meets #[_,ho,rfl] #[_,kQ,rfl] jf lV iw ia (gP _ _)
   (tuple_addW1 t b vs.toArray ws.toArray n n2 dd qK sl kZ (by simpa using hv) (by simp[hw])) #[ho,kQ,h1 hw]
 ·refine concat_meets #[_,ho,rfl] #[_,kQ,rfl] jf lV iw ia (gP _ _)
   (tuple_addW2 t b vs.toArray ws.toArray n n2 dd qK sl kZ (by simpa using hv) (by simpa using hw) ()) #[ho,kQ,?_]
  rw[e];exact h2 hw
abbrev dY(n d:Nat):Option Int->Nat
 |none=>d
 |some v=>if v<0 then(v+(n:Int)).toNat else min v.toNat n
def Mg(v:Int)(n d:Nat):(if v<0 then max (v+(n:Int)) 0 else min v (n:Int))=((dY n d (some v):Nat):Int):=by
 show(if v<0 then max (v+(n:Int)) 0 else min v (n:Int))=(((if v<0 then(v+(n:Int)).toNat else min v.toNat n):Nat):Int)
 grind
def a49(lo hi:Option Int)(n:Nat):Builtin.Slice.sliceAdjust lo hi 1 (n:Int)=(((dY n 0 lo:Nat):Int),((dY n n hi:Nat):Int)):=by
 refine Prod.ext ?_ ?_
 ·cases lo with
  |none=>rfl
  |some v=>exact Mg v n 0
 ·cases hi with
  |none=>rfl
  |some v=>exact Mg v n n
def a08(i j:Nat):Builtin.Slice.slicePlaces (i:Int) (j:Int) 1=j-i:=by
 unfold Builtin.Slice.slicePlaces;have h1:(1:Int)>0:=by omega
 simp only[h1,if_true,Int.ediv_one];split<;>omega
def Ll{v}{o}{Q}(p:IsPart v o)(h:Q o s):wpAny (model prog w) A (Builtin.Slice.slicePartIndex v) Q E s:=by
 cases p with
 |none=>exact slicePart_none h
 |int i t=>exact slicePart_int h
def L'{sl}{vl vu}{lo hi:Option Int}{n:Nat}{Q:Int×Int×Nat->Shared->Prop}(hs:s.heap.IsSliceOf sl vl vu .none)(pl:IsPart vl lo)(pu:IsPart vu hi)(h:Q (((dY n 0 lo:Nat):Int),1,dY n n hi-dY n 0 lo) s):wpAny (model prog w) A (Builtin.Slice.sliceApplied (.ref sl) (pure (n:Int))) Q E s:=by
 let#[os,se,nY,wk]:=id hs;refine ae (ae (ko se wk (x:=vl) rfl (ae (ko se wk (x:=vu) rfl (ae (ko se wk (x:=.none) rfl (ak ?_)))))));refine ae (slicePart_none ?_);refine ae (Ll pl (ae (Ll pu (ae (ak ?_)))));change wpAny _ _ (match Builtin.Slice.sliceAdjust lo hi 1 (n:Int) with|(lo,hi)=>pure (lo,(1:Int),Builtin.Slice.slicePlaces lo hi 1)) _ _ s;rw[a49 lo hi n];change wpAny _ _ (pure (((dY n 0 lo:Nat):Int),(1:Int),Builtin.Slice.slicePlaces ((dY n 0 lo:Nat):Int) ((dY n n hi:Nat):Int) 1)) _ _ s;rw[a08];exact ak h
def Vz(xs:Array Value)(i k:Nat):((List.range k).filterMap λ(m:Nat)=>xs[((i:Int)+(m:Int)*1).toNat]?).toArray=((xs.toList.drop i).take k).toArray:=by
 have e:(λ(m:Nat)=>xs[((i:Int)+(m:Int)*1).toNat]?)=λm=>xs[i+m]?:=by
  funext m
  have:((i:Int)+(m:Int)*1).toNat=i+m:=by omega
  rw[this]
 rw[e];have:=pick_run xs i k;rw[List.filterMap_map] at this;have e2:((λx=>xs[x]?) ∘ λx=>i+x)=λm=>xs[i+m]?:=rfl;rw[e2] at this;rw[this]
def ar3{t sl}{items}{vl vu}{lo hi}{Q}(ht:IsTup s.heap t items)(hs:s.heap.IsSliceOf sl vl vu .none)(pl:IsPart vl lo)(pu:IsPart vu hi)(hw:¬(dY items.size 0 lo=0/\dY items.size items.size hi=items.size))(h:Q (.ref s⁻¹) { s with heap:=s.heap.push { cls:=.type "tuple",data:=.seq ((items.toList.drop (dY items.size 0 lo)).take (dY items.size items.size hi-dY items.size 0 lo)).toArray } })(hsz:items.size<=sizeLine):wpAny (model prog w) A (getItem (.ref t) (.ref sl)) Q E s:=by
 have lb:sizeOk (.seq ((items.toList.drop (dY items.size 0 lo)).take (dY items.size items.size hi-dY items.size 0 lo)).toArray):=by
  show((items.toList.drop (dY items.size 0 lo)).take (dY items.size items.size hi-dY items.size 0 lo)).toArray.size<=sizeLine;rw[aQ,bG,lJ,eJ];omega
 let#[os,se,nY,wk]:=id hs;have Cp:s.TypeIs (.ref sl) "slice":=#[os,se,nY]
 unfold getItem
 try with_reducible refine bB ?_
 refine ae (wpAny_sequenceKey ht.typeIs ∅ ?_);refine ae (fB (name:=Str.ofString "__getitem__") ht.typeIs bU
  (bS bU ht.typeIs entry_tuple_getitem ?_ (args_tuple_getitem _ _)))
 change wpAny _ _ (Builtin.Tuple.tupleItemsOf (.ref t) >>= _) _ _ s;refine ae (tupleItemsOf_ ht ?_);refine ae (dB Cp ?_);refine ae (L' hs pl pu ?_);have nW:¬((((dY items.size 0 lo:Nat):Int)==0&&(1:Int)==1&&(dY items.size items.size hi-dY items.size 0 lo)==items.size)=true):=by
  grind
 change wpAny _ _ (if(((dY items.size 0 lo:Nat):Int)==0&&(1:Int)==1&&(dY items.size items.size hi-dY items.size 0 lo)==items.size)=true then _ else _) _ _ s;rw[az nW,Vz]
 first
  |exact wpAny_bind (m:=Builtin.Tuple.tupleExact _) (wpAny_newObj_type (wpAny_pure #[_,rfl,wpAny_pure h]) lb)
  |exact wpAny_bind (m:=Builtin.Tuple.tupleExact _) (wpAny_newObj_type (wpAny_bind (wpAny_pure (wpAny_pure #[_,rfl,wpAny_pure h]))) lb)
  |exact wpAny_bind (wpAny_bind (m:=Builtin.Tuple.tupleExact _) (wpAny_newObj_type (wpAny_pure (wpAny_pure #[_,rfl,wpAny_pure h])) lb))
  |exact wpAny_bind (wpAny_bind (m:=Builtin.Tuple.tupleExact _) (wpAny_newObj_type (wpAny_pure #[_,rfl,wpAny_pure h]) lb))
end
end HT
namespace L2
open PySem PySem.Spec PyProof.Rows
variable{X:Cx}{e:Expr}{pos:Pos}{n t':Nat}{α:Type}{a:Addr}{pi:List (Addr×Obj)}{Z:St}{H H':Hp}{s:Shared}{aU:List Value}{A:Around}{y x:V}{u:Value}{o:Option V}{w:World}{E:Value->Shared->Prop}{kvs:List (List Key×V)}{P:Program}
noncomputable abbrev TO:=St->Hp->(Option Int->Hp->Prop)->Prop
abbrev PO(X:Cx)(e:Option Expr)(t:TO):Prop :=
 ∀(pi:List (Addr×Obj)) (s:Shared) (Z:St) (H:Hp) (Q:Option Int->Hp->Prop),Inv X pi Z H s->t Z H Q ->
  wpAny (model X.prog X.w) X.A (evalPart e X.env) (λu s'=>∃o H',Inv X pi Z H' s'/\IsPart u o/\Q o H') X.xe s
abbrev Uj:TO:=λ_ H Q=>Q none H
abbrev Yj(t:TE):TO:=λZ H Q=>t Z H λx H1=>∃i,x=.int i/\Q (some i) H1
section
variable{te:TE}{lo hi:Option Expr}{tl th:TO}{p2:Pos}
def MG:PO X none Uj:=by
 intro pi s Z H Q I h;exact ak #[none,H,I,.none,h]
def MH(h:PE X e te):PO X (some e) (Yj te):=by
 intro pi s Z H Q I hw;refine cE (h pi s Z H _ I hw) λu s1 bp=>?_;let#[x,H1,I1,r1,q1]:=bp;let#[i,rfl,q]:=q1;let#[t,rfl]:=r1;exact#[some i,H1,I1,.int i t,q]
abbrev ya(X:Cx)(r:V->Option Int->Option Int->Hp->VK->Prop):Prop :=
 ∀(pi:List (Addr×Obj)) (s:Shared) (Z:St) (H:Hp) (x:V) (v vl vu:Value) (lo hi:Option Int) (sl:Addr) (Q:VK),Inv X pi Z H s->RelV x v->s.heap.IsSliceOf sl vl vu .none->IsPart vl lo->IsPart vu hi->r x lo hi H Q ->
  ∃T id,typeLookup (.type T) "__getitem__"=pure (some (.builtin id))/\s.TypeIs v T/\wpAny (model X.prog X.w) X.A (getItem v (.ref sl)) (EP X pi Z Q) X.xe s
abbrev Py(r:V->Option Int->Option Int->Hp->VK->Prop)(te:TE)(tl th:TO):TE:=λZ H Q=>te Z H λx H1=>tl Z H1 λl H2=>th Z H2 λu H3=>r x l u H3 Q
def Ny{r}(hr:ya X r)(he:PE X e te)(hl:PO X lo tl)(hu:PO X hi th):PE X (.Subscript e (.Slice lo hi none p2) pos) (Py r te tl th):=by
 intro pi s Z H Q I h;refine Subscript_ (cE (he pi s Z H _ I h) λv s1 bp=>?_);let#[x,H1,I1,r1,q1]:=bp;refine wpAny_Slice (cE (hl pi s1 Z H1 _ I1 q1) ?_);rintro vl s2 ⟨l,H2,I2,pl,q2⟩;refine cE (hu pi s2 Z H2 _ I2 q2) λvu s3 bp=>?_;let#[u,H3,I3,pu,q3]:=bp;refine ak ?_;have I4:Inv X pi Z H3 { s3 with heap:=s3.heap.push { cls:=.type "slice",data:=.fields (List.toArray [vl,vu,.none]) } }:=I3.kept (t':=s3.toks) λb ob q=>aj _ q;let#[T,id,hT,ht,hg]:=hr pi { s3 with heap:=s3.heap.push { cls:=.type "slice",data:=.fields (List.toArray [vl,vu,.none]) } } Z H3 x v vl vu l u s3⁻¹ Q I4 r1 (Heap.IsSliceOf.new ..) pl pu q3;exact tail_any (ops:=[.ref s3⁻¹,v]) ht hT hg (by rfl)
abbrev ny(xs:List V)(lo hi:Option Int):List V:=(xs.drop (HT.dY xs.length 0 lo)).take (HT.dY xs.length xs.length hi-HT.dY xs.length 0 lo)
def Lq(xs:List V)(lo hi:Option Int):(ny xs lo hi).length<=xs.length:=by
 unfold ny;rw[bG,lJ];omega
abbrev b63(K:PySem.W.Frag):V->Option Int->Option Int->Hp->VK->Prop:=λx lo hi H Q=>∃a xs,x=.ref a/\ig K H a xs /\
 ¬(HT.dY xs.length 0 lo=0/\HT.dY xs.length xs.length hi=xs.length)/\∀p,H p=none->Q (.ref p) (upd H p (.tup (ny xs lo hi)))
def bI4:ya X (b63 X.K):=by
 intro pi s Z H x v vl vu lo hi sl Q I rx hs pl pu h;let#[a,xs,rfl,hx,hw,q]:=h;cases rx;let#[aU,r,ht,hz]:=I.tuple hx;have hlen:aU.toArray.size=xs.length:=by exact r.length.symm
 refine#["tuple",_,bU.lookup,ht.typeIs,?_];refine HT.ar3 ht hs pl pu (by rw[hlen];exact hw) ?_ (by rw[hlen];exact hz);rw[hlen];refine#[.ref s⁻¹,_,I.laid (t':=s.toks) (o:=.tup (ny xs lo hi)) (λb ob q=>aj _ q) (av _) ?_,rfl,q _ (I.bJ.fresh (av _))];exact#[aD (Lq xs lo hi) hz,_,(r.drop (HT.dY xs.length 0 lo)).take (HT.dY xs.length xs.length hi-HT.dY xs.length 0 lo),P7.new _ _]
abbrev XS(K:PySem.W.Frag):R2:=λx y H Q=>∃a b xs ys,x=.ref a/\y=.ref b/\ig K H a xs/\ig K H b ys/\xs≠[]/\xs.length+ys.length<=sizeLine /\
 (ys=[]->Q (.ref a) H)/\(ys≠[]->∀p,H p=none->Q (.ref p) (upd H p (.tup (xs++ys))))
def Vals.uM{xs}{us}(r:Vals xs us):us=[]↔xs=[]:=by
 cases r with
 |nil=>simp
 |cons _ _=>simp
def bB4:fP X (binaryOp .Add) (XS X.K):=by
 intro pi s Z H x y v u Q I rx ry h;let#[a,b,xs,ys,rfl,rfl,ha,hb,hx,hz,q1,q2]:=h;cases rx;cases ry;let#[aU,r1,p1,_]:=I.tuple ha;let#[mQ,r2,p2,_]:=I.tuple hb;refine HT.bE2 p1 p2 (λz=>hx (r1.uM.mp z)) (λz=>#[.ref a,H,I,rfl,q1 (r2.uM.mp z)]) (λz=>?_) (by rw[<- r1.length,<- r2.length];exact hz);refine#[.ref s⁻¹,_,I.laid (t':=s.toks) (o:=.tup (xs++ys)) (λb ob q=>aj _ q) (av _) ?_,rfl,q2 (λw=>z (r2.uM.mpr w)) _ (I.bJ.fresh (av _))];exact#[by rw[dI];exact hz,_,r1.append r2,P7.new _ _]
end
abbrev nO(n:Nat)(i:Int):Option Nat:=if 0<=i then(if i<n then some i.toNat else none) else if -(n:Int)<=i then some (i+n).toNat else none
abbrev jc{α:Type}(xs:List α)(i:Int):Option α:=(nO xs.length i).bind λj=>xs[j]?
def Mr{i}{j}(h:nO n i=some j):seqIndex? i n=some j/\j<n/\-(n:Int)<=i/\i<n:=by
 unfold nO at h;by_cases h0:0<=i
 ·rw[aH h0] at h;by_cases h1:i<n
  ·rw[aH h1] at h;have e:i.toNat=j:=aG h;exact#[by rw[seqIndex_of h0 h1,e],by omega,by omega,h1]
  simp_all
 ·rw[az h0] at h;by_cases h1:-(n:Int)<=i
  ·rw[aH h1] at h;have e:(i+n).toNat=j:=aG h;exact#[by rw[seqIndex_neg () h1,e],by omega,h1,by omega]
  simp_all
def Mb{xs:List α}{i:Int}{v:α}(h:jc xs i=some v):∃j,seqIndex? i xs.length=some j/\xs[j]?=some v/\j<xs.length/\-(xs.length:Int)<=i/\i<xs.length:=by
 unfold jc at h;cases e:nO xs.length i with
 |none=>simp_all
 |some j =>
  rw[e] at h;let#[h1,h2,h3,h4]:=Mr e;exact#[j,h1,h,h2,h3,h4]
def O9{xs:List α}{j:Nat}{v:α}(h:xs[j]?=some v):jc xs (j:Int)=some v:=by
 have hj:j<xs.length:=(aw.mp h).1;have e:nO xs.length (j:Int)=some j:=by
  unfold nO
  simp_all
 unfold jc;rw[e];exact h
abbrev Gb(b:Expr):Prop:=∀o i,subscripted b false o i=operate [o,i] (getItem o i)
abbrev uY(X:Cx)(r:R2):Prop :=
 ∀(value slice:Expr) (pi:List (Addr×Obj)) (s:Shared) (Z:St) (H:Hp) (x y:V) (v u:Value) (Q:VK),Inv X pi Z H s->RelV x v->RelV y u->r x y H Q ->
  subscripted slice false v u=operate [v,u] (getItem v u)->wpAny (model X.prog X.w) X.A (subscriptTail value slice v u) (EP X pi Z Q) X.xe s
abbrev lE(X:Cx)(id:String)(r:V->List V->Hp->VK->Prop):Prop :=
 ∀(pi:List (Addr×Obj)) (s:Shared) (Z:St) (H:Hp) (x:V) (xs:List V) (v:Value) (us:List Value) (Q:VK),Inv X pi Z H s->RelV x v->Vals xs us->r x xs H Q ->
  wpAny (model X.prog X.w) X.A (call (.builtin id) (v::us)) (EP X pi Z Q) X.xe s
section
variable{a b:Expr}{ta tb:TE}
def JA{r}(hr:uY X r)(ha:PE X a ta)(hb:PE X b tb)(hs:Gb b):PE X (.Subscript a b pos) (qh r ta tb):=by
 intro pi s Z H Q I h;exact Subscript_ (DV ha hb I h λv u s2 x y H2 I2 rx ry q=>hr a b pi s2 Z H2 x y v u Q I2 rx ry q (hs _ _))
abbrev b69(K:PySem.W.Frag):R2:=λx y H Q=>∃p xs i v,x=.ref p/\y=.int i/\fq K H p xs/\jc xs i=some v/\Q v H
abbrev b68(K:PySem.W.Frag):R2:=λx y H Q=>∃p xs i v,x=.ref p/\y=.int i/\ig K H p xs/\jc xs i=some v/\Q v H
def bC8:uY X (b69 X.K):=by
 intro value slice pi s Z H x y v u Q I rx ry h hs;let#[p,xs,i,z,rfl,rfl,hq,he,q]:=h;cases rx;let#[t,rfl]:=ry;let#[aU,r,pl,hz]:=I.list hq;let#[j,h1,h2,h3,h4,h5]:=Mb he;let#[w,ew,fE]:=r.get h2;have hl:=r.length;have hn:=zk;have fin:EP X pi Z Q w s:=#[z,H,I,fE,q]
 by_cases h0:0<=i
 ·have hj:i.toNat=j:=by
   rw[seqIndex_of h0 h5] at h1;exact aG h1
  exact item_listR pl.isList h0 () (by rw[hj];simpa using ew) fin hs
 ·have hj:(i+(aU.toArray.size:Int)).toNat=j:=by
   rw[seqIndex_neg () h4] at h1;rw[aQ,<- hl];exact aG h1
  exact subscriptTail_builtinR (x:=w) pl.isList.typeIs slot_list_getitem.lookup
   (wpAny_getItem_list_neg (Q:=λr s'=>r=w/\EP X pi Z Q r s') pl.isList () (by rw[aQ]<;>omega) () (by rw[hj];simpa using ew) #[rfl,fin]) hs
def YW:uY X (b68 X.K):=by
 intro value slice pi s Z H x y v u Q I rx ry h hs;let#[p,xs,i,z,rfl,rfl,hq,he,q]:=h;cases rx;let#[t,rfl]:=ry;let#[aU,r,pl,hz]:=I.tuple hq;let#[j,h1,h2,h3,h4,h5]:=Mb he;let#[w,ew,fE]:=r.get h2;have hl:=r.length;have hn:=zk;have fin:EP X pi Z Q w s:=#[z,H,I,fE,q]
 exact subscriptTail_builtinR (x:=w) pl.typeIs slot_tuple_getitem.lookup
  (getItem_tuple (j:=j) (Q:=λr s'=>r=w/\EP X pi Z Q r s') pl () () (by rw[aQ,<- hl];exact h1) (by simpa using ew) #[rfl,fin]) hs
def a17(aU:List Value)(n j:Nat)(u:Value):Obj.mapSeq (·.setIfInBounds j u) { cls:=.type "list",data:=.seq aU.toArray n }={ cls:=.type "list",data:=.seq (aU.set j u).toArray n }:=by
 simp[Obj.mapSeq]
def Inv.lst{pi:List (Addr×Obj)}{Z:St}{H:Hp}{s:Shared}{p:Addr}{xs:List V}(I:Inv X pi Z H s)(h:H p=some (.lst xs)) :
  ∃(aU:List Value) (n:Nat),Vals xs aU/\s.heap.get? p=some { cls:=.type "list",data:=.seq aU.toArray n }/\xs.length<=sizeLine:=by
 let#[z,aU,n,r,e]:=I.bJ p _ h;exact#[aU,n,r,e,z]
def Inv.Zf{p}{xs ys}{its'}{n'}{f}(I:Inv X pi Z H s)(h:H p=some (.lst xs))(ho:s.heap.get? p=some { cls:=.type "list",data:=.seq aU.toArray n })(hf:f { cls:=.type "list",data:=.seq aU.toArray n }={ cls:=.type "list",data:=.seq its'.toArray n' })(r:Vals ys its')(hz:ys.length<=sizeLine)(t:Nat) :
  Inv X pi Z (upd H p (.lst ys)) { s with heap:=s.heap.update p f,toks:=t }:=by
 have e:(s.heap.update p f).get? p=some { cls:=.type "list",data:=.seq its'.toArray n' }:=by
  rw[bc f ho (by rw[hf]<;>rfl),hf]
 refine I.write (x:=p) (e:=p) (by rw[h];trivial) (.inl rfl) (λb u hb q=>(cw _ _ (aZ hb)).trans q) #[_,e] ?_;exact#[hz,its',n',r,e]
abbrev XW:V->V->V->Hp->(Hp->Prop)->Prop:=λo i v H Q=>∃p xs k j,o=.ref p/\i=.int k/\H p=some (.lst xs)/\nO xs.length k=some j/\Q (upd H p (.lst (xs.set j v)))
def set_list:DP X XW:=by
 intro pi s Z H o i v ov iv u Q I ro ri rv h;let#[p,xs,k,j,rfl,rfl,hp,hj,q]:=h;cases ro;let#[t,rfl]:=ri;let#[aU,n,r,ho,hz]:=I.lst hp;let#[h1,h2,h3,h4]:=Mr hj;have hl:=r.length;have hn:=zk;have I':Inv X pi Z (upd H p (.lst (xs.set j v))) { s with heap:=s.heap.update p (Obj.mapSeq (·.setIfInBounds j u)) } :=
  I.Zf hp ho (a17 aU n j u) (r.set rv j) (by rw[List.length_set];exact hz) s.toks
 by_cases h0:0<=k
 ·have hk:k.toNat=j:=by
   rw[seqIndex_of h0 h4] at h1;exact aG h1
  exact PySem.W.ki_setAt ho h0 () (by rw[aQ,<- hl];exact h4) (by rw[hk];exact#[_,I',q])
 ·have hk:(k+(aU.toArray.size:Int)).toNat=j:=by
   rw[seqIndex_neg () h3] at h1;rw[aQ,<- hl];exact aG h1
  exact PySem.W.ki_setBack ho () (by rw[aQ,<- hl];exact h3) () (by rw[hk];exact#[_,I',q])
def aL3(lo hi:Option Int)(n:Nat):(sliceBounds lo hi none n).1=((HT.dY n 0 lo:Nat):Int)/\(sliceBounds lo hi none n).2.1=((HT.dY n n hi:Nat):Int)/\(sliceBounds lo hi none n).2.2=1:=by
 refine#[?_,?_,rfl]
 ·cases lo with
  |none=>rfl
  |some i =>
   simp only[sliceBounds,HT.dY,Option.getD_none,show(1:Int)>0 by decide,if_true]
   grind
 ·cases hi with
  |none=>rfl
  |some i =>
   simp only[sliceBounds,HT.dY,Option.getD_none,show(1:Int)>0 by decide,if_true]
   grind
def aG2(aU:List Value)(lo hi:Option Int):slicePick aU.toArray lo hi none=((aU.drop (HT.dY aU.length 0 lo)).take (HT.dY aU.length aU.length hi-HT.dY aU.length 0 lo)).toArray:=by
 let#[h1,h2,h3]:=aL3 lo hi aU.toArray.size;unfold slicePick;rw[h1,h2,h3];simp only[sliceRange_one,pick_run,List.size_toArray]<;>rfl
abbrev b64(K:PySem.W.Frag):V->Option Int->Option Int->Hp->VK->Prop:=λx lo hi H Q=>∃a xs,x=.ref a/\fq K H a xs/\∀p,H p=none->Q (.ref p) (upd H p (.lst (ny xs lo hi)))
def TZ:ya X (b64 X.K):=by
 intro pi s Z H x v vl vu lo hi sl Q I rx hs pl pu h;let#[a,xs,rfl,hx,q]:=h;cases rx;let#[aU,r,ht,hz]:=I.list hx;have hlen:=r.length;refine#["list",_,slot_list_getitem.lookup,ht.isList.typeIs,?_];refine wpAny_getItem_list_slice ht.isList hs pl pu .none #[_] ?_ (by grind);rw[aG2,<- hlen];refine#[.ref s⁻¹,_,I.laid (t':=s.toks) (o:=.lst (ny xs lo hi)) (λb ob q=>aj _ q) (av _) ?_,rfl,q _ (I.bJ.fresh (av _))];exact#[aD (Lq xs lo hi) hz,_,0,(r.drop (HT.dY xs.length 0 lo)).take (HT.dY xs.length xs.length hi-HT.dY xs.length 0 lo),aB _ rfl]
abbrev M6:V->Bool
 |.br=>true
 |.bl _=>true
 |.int _=>true
 |.str _=>true
 |_=>false
abbrev lS:V->V->Bool
 |.br,.br=>true
 |.bl a,.bl b=>a==b
 |.bl a,.int b=>(if a then 1 else 0)==b
 |.int a,.bl b=>a==(if b then 1 else 0)
 |.int a,.int b=>a==b
 |.str a,.str b=>a==b
 |_,_=>false
def YO{v}(ry:RelV y u)(rx:RelV x v)(fy:M6 y=true)(fx:M6 x=true):SeqAt.EqAt A s u v (lS y x):=by
 cases y with
 |br =>
  cases ry;cases x with
  |br=>cases rx;exact SeqAt.EqAt.same _
  |bl b=>cases rx;exact SeqAt.EqAt.none_bool b
  |int b=>let#[t,rfl]:=rx;exact SeqAt.EqAt.none_int b t
  |str b=>let#[t,rfl]:=rx;exact SeqAt.EqAt.none_str b t
  |_=>exact absurd (show false=true from fx) Bool.false_ne_true
 |bl a =>
  cases ry;cases x with
  |br=>cases rx;exact SeqAt.EqAt.bool_none a
  |bl b=>cases rx;exact SeqAt.EqAt.bool_bool a b
  |int b=>let#[t,rfl]:=rx;exact SeqAt.EqAt.bool_int a b t
  |str b=>let#[t,rfl]:=rx;exact SeqAt.EqAt.bool_str a b t
  |_=>exact absurd (show false=true from fx) Bool.false_ne_true
 |int a =>
  let#[t',rfl]:=ry;cases x with
  |br=>cases rx;exact SeqAt.EqAt.int_none a t'
  |bl b=>cases rx;exact SeqAt.EqAt.int_bool a t' b
  |int b=>let#[t,rfl]:=rx;exact SeqAt.EqAt.int_int a t' b t
  |str b=>let#[t,rfl]:=rx;exact SeqAt.EqAt.int_str a t' b t
  |_=>exact absurd (show false=true from fx) Bool.false_ne_true
 |str a =>
  let#[t',rfl]:=ry;cases x with
  |br=>cases rx;exact SeqAt.EqAt.str_none a t'
  |bl b=>cases rx;exact SeqAt.EqAt.str_bool a t' b
  |int b=>let#[t,rfl]:=rx;exact SeqAt.EqAt.str_int a t' b t
  |str b=>let#[t,rfl]:=rx;exact SeqAt.EqAt.str_str a t' b t
  |_=>exact absurd (show false=true from fx) Bool.false_ne_true
 |_=>exact absurd (show false=true from fy) bY
abbrev mx(x:V)(u:Value):Bool:=match u with
 |.none=>lS .br x
 |.bool b=>lS (.bl b) x
 |.int i _=>lS (.int i) x
 |.str z _=>lS (.str z) x
 |_=>false
def zi(r:RelV y u)(f:M6 y=true):mx x u=lS y x:=by
 cases y with
 |br=>cases r;rfl
 |bl b=>cases r;rfl
 |int i=>let#[t,rfl]:=r;rfl
 |str z=>let#[t,rfl]:=r;rfl
 |_=>exact absurd (show false=true from f) bY
def Ge{x}:∀{xs:List V} {us:List Value},Vals xs us->xs.all M6=true->us.any (mx x)=xs.any λy=>lS y x
 |_,_,.nil,_=>rfl
 |y::xs,u::us,.cons r t,f=>by
  rw[gR,aP] at f;rw[gQ,gQ,zi r f.1,Ge t f.2]
def zK{A}{s}{x}{v}(rx:RelV x v)(fx:M6 x=true):∀{xs:List V} {us:List Value},Vals xs us->xs.all M6=true->∀u∈us,SeqAt.EqAt A s u v (mx x u)
 |_,_,.nil,_=>λu hu=>by cases hu
 |y::xs,u::us,.cons r t,f=>λu' hu=>by
  rw[gR,aP] at f;rcases aF.mp hu with rfl|hu
  ·rw[zi r f.1];exact YO r rx f.1 fx
  ·exact zK rx fx t f.2 u' hu
abbrev yI(x:V)(xs:List V):Bool:=xs.any λy=>lS y x
abbrev Bj(K:PySem.W.Frag)(neg:Bool):R2:=λx y H Q=>∃p xs,y=.ref p/\(fq K H p xs\/ig K H p xs)/\M6 x=true/\xs.all M6=true/\Q (.bl (if neg then !yI x xs else yI x xs)) H
def aM8:fP X (compareOp .NotIn) (Bj X.K true):=by
 intro pi s Z H x y v u Q I rx ry h;let#[p,xs,rfl,hq,fx,fs,q]:=h;cases ry;rcases hq with hq|hq
 ·let#[aU,r,pl,hz]:=I.list hq;refine SeqAt.notIn_listAt (mx x) pl.isList (λw hw=>zK rx fx r fs w (by simpa using hw)) #[.bl _,H,I,rfl,?_];rw[show aU.toArray.any (mx x)=aU.any (mx x) by simp,Ge r fs];exact q
 ·let#[aU,r,pl,hz]:=I.tuple hq;refine SeqAt.notIn_tupleAt (mx x) pl (λw hw=>zK rx fx r fs w (by simpa using hw)) #[.bl _,H,I,rfl,?_];rw[show aU.toArray.any (mx x)=aU.any (mx x) by simp,Ge r fs];exact q
def aQ5:p9 X (.builtin "len") (λxs H Q=>∃p ys,xs=[.ref p]/\(fq X.K H p ys\/ig X.K H p ys)/\Q (.int ys.length) H):=by
 intro pi s Z H xs us Q I r h;let#[p,ys,rfl,hq,q]:=h;let#[u,rfl,rx]:=vals1 r;cases rx;have hn:=zk;rcases hq with hq|hq
 ·let#[aU,r',pl,hz]:=I.list hq;have hlen:=r'.length;exact Calls.call_len_list pl.isList (by simp only[List.size_toArray]<;>omega) #[.int ys.length,H,I.tok _,#[s.toks+1,by rw[aQ,hlen]],q]
 ·let#[aU,r',pl,hz]:=I.tuple hq;have hlen:=r'.length;exact len_tuple pl (by simp only[List.size_toArray]<;>omega) #[.int ys.length,H,I.tok _,#[s.toks+1,by rw[aQ,hlen]],q]
def aQ4:p9 X (.type "list") (λxs H Q=>∃p ys,xs=[.ref p]/\(fq X.K H p ys\/ig X.K H p ys)/\∀l,H l=none->Q (.ref l) (upd H l (.lst ys))):=by
 intro pi s Z H xs us Q I r h;let#[p,ys,rfl,hq,q]:=h;let#[u,rfl,rx]:=vals1 r;cases rx;have fin:∀(aU:List Value),Vals ys aU->ys.length<=sizeLine->∀(h':Heap) (c':Nat),(∀b o',s.heap.get? b=some o'->h'.get? b=some o') ->
   h'.get? s⁻¹=some { cls:=.type "list",dict:=none,data:=.seq aU.toArray c',slots:=(List.toArray []) }->EP X pi Z Q (.ref s⁻¹) { s with heap:=h' }:=λaU r' hz h' c' kp e =>
  #[.ref s⁻¹,_,I.laid (t':=s.toks) kp (av _) (show p6 X.prog X.w _ h' _ (.lst ys) from#[hz,aU,c',r',e]),rfl,q _ (I.bJ.fresh (av _))]
 rcases hq with hq|hq
 ·let#[aU,r',pl,hz]:=I.list hq;have hlen:=r'.length;let#[o,ho,hc,n,hd]:=pl.isList;exact call_list_seq p (.inl rfl) ho hc hd (λh' c' kp e=>fin aU r' hz h' c' kp e) (by simp_all)
 ·let#[aU,r',pl,hz]:=I.tuple hq;have hlen:=r'.length;let#[o,ho,hc,n,hd]:=pl;exact call_list_seq p (.inr rfl) ho hc hd (λh' c' kp e=>fin aU r' hz h' c' kp e) (by simp_all)
def aH1:p9 X (.type "tuple") (λxs H Q=>∃p ys,xs=[.ref p]/\((fq X.K H p ys/\∀l,H l=none->Q (.ref l) (upd H l (.tup ys)))\/(ig X.K H p ys/\Q (.ref p) H))):=by
 intro pi s Z H xs us Q I r h;let#[p,ys,rfl,h]:=h;let#[u,rfl,rx]:=vals1 r;cases rx;rcases h with⟨hq,q⟩|⟨hq,q⟩
 ·let#[aU,r',pl,hz]:=I.list hq;have hlen:=r'.length;refine call_tuple_list pl.isList (λh' kp=>?_) (by simp_all);have I1:Inv X pi Z H { s with heap:=h' }:=I.kept (t':=s.toks) kp;have I2:Inv X pi Z (upd H h'.objs.size (.tup ys)) { s with heap:=h'.push { cls:=.type "tuple",data:=.seq aU.toArray } } :=
   I1.laid (t':=s.toks) (λb o e=>aj _ e) (av _) (show p6 X.prog X.w _ _ _ (.tup ys) from#[hz,aU,r',P7.new _ _])
  exact#[.ref h'.objs.size,_,I2,rfl,q _ (I1.bJ.fresh (av _))]
 ·let#[aU,r',pl,hz]:=I.tuple hq;exact call_tuple_same pl #[.ref p,H,I,rfl,q]
abbrev nM(K:PySem.W.Frag)(T:String)(x:V)(H:Hp):Prop:=match x with
 |.str _=>T="str"
 |.int _=>T="int"
 |.ref p=>(T="list"/\∃xs,fq K H p xs)\/(T="tuple"/\∃o,K.lookup p=some o/\o.cls=.type "tuple"/\o.dict=none) \/
   (T="dict"/\((∃kvs,H p=some (.dK kvs))\/∃kvs,H p=some (.dT kvs)))\/(T="set"/\∃S n,H p=some (.set S n))
 |_=>False
def ON{T}{v}(I:Inv X pi Z H s)(r:RelV x v)(ty:nM X.K T x H) :
  s.TypeIs v T/\∀a,v=.ref a->∃ob,s.heap.get? a=some ob/\ob.dict=none:=by
 cases x with
 |str z =>
  let#[t,rfl]:=r;cases (show T="str" from ty);exact#[typeIs_str s z t,λ_ e=>nomatch e]
 |int i =>
  let#[t,rfl]:=r;cases (show T="int" from ty);exact#[mB s i t,λ_ e=>nomatch e]
 |ref p =>
  cases r;rcases ty with⟨rfl,xs,hq⟩|⟨rfl,o,hk,hc,hd⟩|⟨rfl,hk⟩|⟨rfl,S,n,hk⟩
  ·let#[aU,_,pl,_]:=I.list hq;refine#[pl.isList.typeIs,λa e=>?_];cases e;let#[o,n,e,c,hd,_]:=pl;exact#[o,e,hd]
  ·refine#[#[o,I.gA p o hk,hc],λa e=>?_];cases e;exact#[o,I.gA _ o hk,hd]
  ·have z:∃o,s.heap.get? p=some o/\o.ExactDict:=by
    rcases hk with⟨kvs,hk⟩|⟨kvs,hk⟩
    ·let#[_,_,_,_,o,_,_,e,ex,_]:=I.bJ p _ hk;exact#[o,e,ex]
    ·let#[_,_,_,_,o,_,_,e,ex,_]:=I.bJ p _ hk;exact#[o,e,ex]
   let#[o,e,ex]:=z;refine#[#[o,e,ex.1],λa e2=>?_];cases e2;exact#[o,e,ex.2.1]
  ·let#[o,_,_,_,e,ex,_]:=I.bJ p _ hk;refine#[#[o,e,ex.1],λa e2=>?_];cases e2;exact#[o,e,ex.2.1]
 |_=>exact False.elim ty
abbrev b52(K:PySem.W.Frag)(T:String)(r:V->List V->Hp->VK->Prop)(to:TE):TE:=λZ H Q=>to Z H λx H1=>nM K T x H1/\r x [] H1 Q
abbrev PH(K:PySem.W.Frag)(T:String)(r:V->List V->Hp->VK->Prop)(to:TE)(t:TA):TE:=λZ H Q=>to Z H λx H1=>nM K T x H1/\t Z H1 λxs H2=>r x xs H2 Q
variable{o:Expr}{es:List Expr}{to:TE}{t:TA}{name:Str}{apos eL:Pos}{T id:String}{r:V->List V->Hp->VK->Prop}
def ZA(pa:PlainAttrs T)(slot:Slot T name id)(rY:typeOf (.builtin id)=pure (.type "method_descriptor"))(hm:lE X id r)(ho:PE X o to)(fI:attributeBase o name X.env (eval o X.env)=eval o X.env:=by rfl)(fH:(apos.endLine==eL.line)=true:=by rfl):PE X (.Call (.Attribute o name apos) [] [] eL) (b52 X.K T r to):=by
 intro pi s Z H Q I h;refine wpAny_Call_method0_late fI fH (cE (ho pi s Z H _ I h) λv s1 bp=>?_);let#[x,H1,I1,r1,ty,q1]:=bp;let#[h1,h2]:=ON I1 r1 ty;exact#[T,id,pa,slot,rY,h1,h2,jD rfl (GZ (hm pi s1 Z H1 x [] v [] Q I1 r1 .nil q1))]
def XH(pa:PlainAttrs T)(slot:Slot T name id)(rY:typeOf (.builtin id)=pure (.type "method_descriptor"))(hm:lE X id r)(ho:PE X o to)(ha:PA X (e::es) t)(fI:attributeBase o name X.env (eval o X.env)=eval o X.env:=by rfl)(kR:((backTo eL (starEach (e :: es) X.env)).all (λx=>!x.1) && (backToKw eL (keywordEach [] X.env)).all (λx=>x.1.isSome)
   && decide ((e :: es).length + ([]:List Keyword).length + (if ([]:List Keyword).isEmpty then 0 else 1) < 30))=true:=by rfl)(fH:(apos.endLine==eL.line)=true:=by rfl)(hs:starEach (e::es) X.env=(false,eval e X.env)::starEach es X.env:=by rfl)(fe:(backTo eL (starEach es X.env)).any (·.1)=false:=by rfl) :
  PE X (.Call (.Attribute o name apos) (e::es) [] eL) (PH X.K T r to t):=by
 intro pi s Z H Q I h;refine wpAny_Call_method_late fI kR fH rfl (cE (ho pi s Z H _ I h) λv s1 bp=>?_);let#[x,H1,I1,r1,ty,q1]:=bp;let#[h1,h2]:=ON I1 r1 ty;refine#[T,id,pa,slot,rY,h1,h2,?_];have hA:=ha eL pi s1 Z H1 _ I1 q1;rw[hs] at hA ⊢;refine jD (by show(false||(backTo eL (starEach es X.env)).any (·.1))=false;rw[fe]<;>rfl) (kF ?_);exact cE hA (by rintro us s2 ⟨vs,H2,I2,r2,q2⟩;exact hm pi s2 Z H2 x vs v us Q I2 r1 r2 q2)
end
abbrev AE(X:Cx)(id:String)(r:V->List V->Hp->VK->Prop):Prop :=
 ∀(pi:List (Addr×Obj)) (s:Shared) (Z:St) (H:Hp) (x:V) (xs:List V) (v:Value) (us:List Value) (Q:VK),Inv X pi Z H s->RelV x v->Vals xs us->r x xs H Q ->
  wpAny (model X.prog X.w) X.A (call (.builtin id) (v::us)) (EP X pi Z Q) X.xe s
def Vals.one{us}(h:Vals [x] us):∃u,us=[u]/\RelV x u:=by
 cases h with
 |cons r h =>
  cases h;exact#[_,rfl,r]
def Vals.zero:∀{us:List Value},Vals [] us->us=[]
 |_,.nil=>rfl
def Vals.dropLast{xs}{us}(h:Vals xs us):Vals xs.dropLast us.dropLast:=by
 induction h with
 |nil=>exact .nil
 |cons r t ih =>
  cases t with
  |nil=>exact .nil
  |cons q t'=>exact .cons r ih
def Vals.eraseIdx:∀{xs:List V} {us:List Value} (i:Nat),Vals xs us->Vals (xs.eraseIdx i) (us.eraseIdx i)
 |_,_,_,.nil=>.nil
 |_,_,0,.cons _ t=>t
 |_,_,i+1,.cons r t=>.cons r (Vals.eraseIdx i t)
def Vals.reverse{xs}{us}(h:Vals xs us):Vals xs.reverse us.reverse:=by
 induction h with
 |nil=>exact .nil
 |cons r t ih=>rw[gJ,gJ];exact Vals.append ih (.cons r .nil)
def Vals.rep{xs}{us}(h:Vals xs us):∀k:Nat,Vals (List.replicate k xs).flatten (List.replicate k us).flatten
 |0=>.nil
 |k+1=>by
  exact Vals.append h (Vals.rep h k)
def Od{α:Type}:∀(l:List α) (i:Nat),(l.eraseIdx i).length<=l.length
 |[],_=>av _
 |_::_,0=>jg _
 |_::r,i+1=>Nat.succ_le_succ (Od r i)
def foldl_rep(aU:List Value):∀(k:Nat) (acc:List Value),
  List.foldl (λx1 x2=>x1++x2) acc.toArray (List.replicate k aU.toArray)=(acc++(List.replicate k aU).flatten).toArray
 |0,acc=>by simp
 |k+1,acc=>by
  have e:acc.toArray++aU.toArray=(acc++aU).toArray:=by simp
  have e2:(acc++aU)++(List.replicate k aU).flatten=acc++(List.replicate (k+1) aU).flatten:=by
   rw[fU,List.flatten_cons,gL]
  rw[<- e2,<- foldl_rep aU k (acc++aU),<- e,fU,List.foldl_cons]
section
variable{l:Addr}{xs ys:List V}
def Inv.nB{its'}{f}{t'}(I:Inv X pi Z H s)(hH:H l=some (.lst xs))(e:s.heap.get? l=some { cls:=.type "list",data:=.seq aU.toArray n })(hf:f aU.toArray=its'.toArray)(hv:Vals ys its')(hz:ys.length<=sizeLine) :
  Inv X pi Z (upd H l (.lst ys)) { s with heap:=s.heap.update l (Obj.mapSeq f),toks:=t' }:=by
 have q:=PySem.IsL.update e f;rw[hf] at q;refine I.write (x:=l) (e:=l) (by rw[hH];exact trivial) (.inl rfl) (λb' u hb hu=>(cw s.heap (Obj.mapSeq f) (aZ hb)).trans hu) #[_,q] ?_;exact#[hz,its',_,hv,q]
def Inv.Kr{t'}(I:Inv X pi Z H s)(hv:Vals ys aU)(hz:ys.length<=sizeLine) :
  Inv X pi Z (upd H s⁻¹ (.lst ys)) { s with heap:=s.heap.push { cls:=.type "list",data:=.seq aU.toArray },toks:=t' } :=
 I.laid (λ_ _ q=>aj _ q) (av _) #[hz,aU,0,hv,aB _ rfl]
def Inv.fresh(I:Inv X pi Z H s):H s⁻¹=none:=I.bJ.fresh (av _)
def Inv.sU(I:Inv X pi Z H s)(hH:H l=some (.lst xs)):xs.length<=sizeLine/\∃(aU:List Value) (n:Nat),Vals xs aU/\xs.length=aU.length/\s.heap.get? l=some { cls:=.type "list",data:=.seq aU.toArray n }:=by
 let#[z,aU,n,r,e]:=I.bJ l _ hH;exact#[z,aU,n,r,r.length,e]
def Vl(h:n<=sizeLine):Builtin.List.listTooLong n=false:=by
 unfold Builtin.List.listTooLong
 simp_all
end
abbrev Ts:V->List V->Hp->VK->Prop:=λx vs H Q=>∃l xs y,x=.ref l/\vs=[y]/\H l=some (.lst xs)/\xs.length<sizeLine/\Q .br (upd H l (.lst (xs++[y])))
def Xe:AE X "list.append" Ts:=by
 intro pi s Z H x vs v us Q I rx rv h;let#[l,xs,y,rfl,rfl,hH,hz,q]:=h;cases rx;let#[u,rfl,ru]:=rv.one;let#[z,aU,n,r,hl,e]:=I.sU hH;refine dG F.slot_list_append #[_,e,rfl] F.entry_list_append (F.args_list_append_2 _ _) (PySem.list_append l aU.toArray n u (by grind)) #[e,?_];refine#[.br,_,I.nB (its':=aU++[u]) hH e #[_] (r.append (.cons ru .nil)) ?_,rfl,q]
 grind
abbrev b67:V->List V->Hp->VK->Prop:=λx vs H Q=>∃l xs y,x=.ref l/\vs=[]/\H l=some (.lst xs)/\xs[xs.length-1]?=some y/\Q y (upd H l (.lst xs.dropLast))
def Zi:AE X "list.pop" b67:=by
 intro pi s Z H x vs v us Q I rx rv h;let#[l,xs,y,rfl,rfl,hH,hy,q]:=h;cases rx;have BI:=rv.zero;subst BI;let#[z,aU,n,r,hl,e]:=I.sU hH;let#[u,hu,ru]:=r.get hy;have QF:aU.toArray[aU.toArray.size-1]?=some u:=by
  change aU.toArray[aU.length-1]?=some u;rw[<- iS,<- hl];exact hu
 refine dG F.slot_list_pop #[_,e,rfl] F.entry_list_pop (F.args_list_pop_1 _) (MeetsSeq.list_pop_last l aU.toArray n u QF (by rw[aQ];omega)) #[e,?_];refine#[y,_,I.nB (its':=aU.dropLast) hH e ?_ r.dropLast ?_,ru,q]
 ·simp
 ·rw[List.length_dropLast];omega
abbrev ZX:V->List V->Hp->VK->Prop:=λx vs H Q=>∃l xs i k y,x=.ref l/\vs=[.int i]/\H l=some (.lst xs)/\-(2 ^ 63)<=i/\i<2 ^ 63/\seqIndex? i xs.length=some k/\xs[k]?=some y/\Q y (upd H l (.lst (xs.eraseIdx k)))
def Vh:AE X "list.pop" ZX:=by
 intro pi s Z H x vs v us Q I rx rv h;let#[l,xs,i,k,y,rfl,rfl,hH,h1,h2,hk,hy,q]:=h;cases rx;let#[u,rfl,ru]:=rv.one;let#[t,rfl]:=ru;let#[z,aU,n,r,hl,e]:=I.sU hH;let#[w,hw,fE]:=r.get hy;refine dG F.slot_list_pop #[_,e,rfl] F.entry_list_pop (F.args_list_pop_2 _ _)
  (MeetsSeq.list_pop_at l aU.toArray n i t k w (fitsIndex_both h1 h2) (by rw[aQ,<- hl];exact hk) (by simp_all) (by rw[aQ];omega)) #[e,?_]
 refine#[y,_,I.nB (its':=aU.eraseIdx k) hH e ?_ (r.eraseIdx k) ?_,fE,q]
 ·simp
 ·have:=Od xs k;omega
abbrev ZW:V->List V->Hp->VK->Prop:=λx vs H Q=>∃l xs,x=.ref l/\vs=[]/\H l=some (.lst xs)/\Q .br (upd H l (.lst []))
def Vf:AE X "list.clear" ZW:=by
 intro pi s Z H x vs v us Q I rx rv h;let#[l,xs,rfl,rfl,hH,q]:=h;cases rx;have BI:=rv.zero;subst BI;let#[z,aU,n,r,hl,e]:=I.sU hH;refine dG F.slot_list_clear #[_,e,rfl] F.entry_list_clear (F.args_list_clear_1 _) (AutoSeq1.list_clear_list_0 l aU.toArray n (by rw[aQ];omega)) #[e,?_];exact#[.br,_,I.nB (its':=[]) (ys:=[]) hH e rfl .nil (bO _),rfl,q]
abbrev b70:R2:=λx y H Q=>∃l b xs zs,x=.ref l/\y=.ref b/\H l=some (.lst xs)/\H b=some (.lst zs)/\xs.length+zs.length<=sizeLine/\∀p,H p=none->Q (.ref p) (upd H p (.lst (xs++zs)))
def Zo:fP X (binaryOp .Add) b70:=by
 intro pi s Z H x y v u Q I rx ry h;let#[l,b,xs,zs,rfl,rfl,hH,hB,hz,q]:=h;cases rx;cases ry;let#[z,aU,n,r,hl,e]:=I.sU hH;let#[z2,mQ,n2,r2,tZ,e2]:=I.sU hB;refine PySem.P.add_list e e2 ?_ (by rw[aQ,aQ];omega);have ea:aU.toArray++mQ.toArray=(aU++mQ).toArray:=by simp
 rw[ea];exact#[.ref _,_,I.Kr (t':=s.toks) (r.append r2) (by rw[dI];omega),rfl,q _ I.fresh]
abbrev b66:R2:=λx y H Q=>∃l k xs,x=.ref l/\y=.int k/\H l=some (.lst xs)/\-(2 ^ 63)<=k/\k<2 ^ 63/\xs.length*k.toNat<=sizeLine /\
 ∀p,H p=none->Q (.ref p) (upd H p (.lst (List.replicate k.toNat xs).flatten))
def len_rep(xs:List α)(k:Nat):(List.replicate k xs).flatten.length=k*xs.length:=by
 simp
def Zt:fP X (binaryOp .Mult) b66:=by
 intro pi s Z H x y v u Q I rx ry h;let#[l,k,xs,rfl,rfl,hH,h1,h2,hz,q]:=h;cases rx;let#[t,rfl]:=ry;let#[z,aU,n,r,hl,e]:=I.sU hH;have hlen:aU.toArray.size*k.toNat<=sizeLine:=by rw[aQ,<- hl];exact hz
 have Cf:¬aU.toArray.size*k.toNat>(2 ^ 63-1) / 8:=by
  have:(sizeLine:Nat)<=(2 ^ 63-1) / 8:=by decide
  omega
 have Cb:¬(!Builtin.List.listFitsIndex k)=true:=by
  rw[fitsIndex_both h1 h2];exact bY
 have vX:¬Builtin.List.listTooLong (aU.toArray.size*k.toNat)=true:=by
  rw[Vl hlen];exact bY
 have sf:List.foldl (λx1 x2=>x1++x2) (List.toArray []) (List.replicate (if aU.toArray.isEmpty=true then 0 else k.toNat) aU.toArray)=(List.replicate k.toNat aU).flatten.toArray:=by
  have f0:∀m:Nat,List.foldl (λx1 x2=>x1++x2) (List.toArray []) (List.replicate m aU.toArray)=(List.replicate m aU).flatten.toArray:=λm=>by
   have:=foldl_rep aU m []
   simp_all
  rw[f0];cases aU with
  |nil=>simp
  |cons a r'=>rfl
 refine GY (T:="list") (U:="int") ∅ #[_,e,rfl] (λs'=>mB s' k t) noFill_list_mul F.fills_int_mul jS repeat_list F.slot_int_index.lookup
  (dG jS (mB s k t) F.entry_int_rmul (F.args_int_rmul_2 _ _) (int___rmul___int_list k t l aU.toArray n)
   #[e,rfl,#[_,e,rfl],dG F.slot_list_mul #[_,e,rfl] F.entry_list_mul (F.args_list_mul_2 _ _) (AutoListH.list___mul___list_int_3 l aU.toArray n k t Cb Cf vX) #[e,?_]])
 rw[sf];exact#[.ref _,_,I.Kr (t':=s.toks) (r.rep k.toNat) (by rw[len_rep,vd];exact hz),rfl,q _ I.fresh]
section
variable{κ:Type}[DecidableEq κ]
abbrev R8(kvs:List (κ×V))(k:κ):Option V:=(kvs.find? λkv=>decide (kv.1=k)).map (·.2)
abbrev putK(kvs:List (κ×V))(k:κ)(v:V):List (κ×V) :=
 if(kvs.any λkv=>decide (kv.1=k))=true then kvs.map (λkv=>if kv.1=k then(kv.1,v) else kv) else kvs++[(k,v)]
abbrev tj(kvs:List (κ×V))(k:κ):List (κ×V):=kvs.filter λkv=>decide (kv.1≠k)
def Ey{p:κ×V}{r:List (κ×V)}{k:κ}(e:p.1=k):R8 (p::r) k=some p.2:=by simp[R8,List.find?_cons,e]
def Ew{p:κ×V}{r:List (κ×V)}{k:κ}(e:¬p.1=k):R8 (p::r) k=R8 r k:=by simp[R8,List.find?_cons,e]
def NM(k:κ):∀kvs:List (κ×V),(kvs.any λkv=>decide (kv.1=k))=(R8 kvs k).isSome
 |[]=>rfl
 |p::r=>by
  rw[gQ];by_cases e:p.1=k
  ·simp only[Ey e,decide_eq_true e,Bool.true_or,Option.isSome_some]
  ·rw[Ew e,ax e,Bool.false_or];exact NM k r
def W0(kvs:List (κ×V))(k:κ)(v:V):(putK kvs k v).length<=kvs.length+1:=by
 unfold putK;split
 ·simp
 simp
def J0.X7{u}(r:J0 o u):o.isSome=u.isSome:=by
 cases o with
 |none=>cases u with
  |none=>rfl
  |some _=>exact(show False from r).elim
 |some _=>cases u with
  |none=>exact(show False from r).elim
  |some _=>rfl
def J0.getD{o}{u}{d}{d'}(r:J0 o u)(rd:RelV d d'):RelV (o.getD d) (u.getD d'):=by
 cases o with
 |none=>cases u with
  |none=>exact rd
  |some _=>exact(show False from r).elim
 |some _=>cases u with
  |none=>exact(show False from r).elim
  |some _=>exact r
def KV.val{kvs}{vs}(r:KV kvs vs)(k:κ):J0 (R8 kvs k) (valueAt vs k):=by
 induction r with
 |nil=>exact True.intro
 |@cons p q ps qs h t ih =>
  let#[h1,h2]:=h;by_cases e:p.1=k
  ·have e':q.1=k:=h1.symm.trans e;have b:valueAt (q::qs) k=some q.2:=by simp[valueAt,List.find?_cons,e']
   rw[Ey e,b];exact h2
  ·have e':¬q.1=k:=λz=>e (h1.trans z);have b:valueAt (q::qs) k=valueAt qs k:=by simp[valueAt,List.find?_cons,e']
   rw[Ew e,b];exact ih
def KV.any{kvs}{vs}(r:KV kvs vs)(k:κ):(kvs.any λkv=>decide (kv.1=k))=vs.any λkv=>decide (kv.1=k):=by
 induction r with
 |nil=>rfl
 |cons h t ih=>simp_all
def KV.Ed{kvs}{vs}(r:KV kvs vs)(k:κ)(ry:RelV y u) :
  KV (kvs.map λkv=>if kv.1=k then(kv.1,y) else kv) (vs.map λkv=>if kv.1=k then(kv.1,u) else kv):=by
 induction r with
 |nil=>exact .nil
 |@cons p q ps qs h t ih =>
  rw[cx,cx];refine .cons ?_ ih;let#[h1,h2]:=h;by_cases e:p.1=k
  ·rw[aH e,aH (h1.symm.trans e)];exact#[h1,ry]
  ·rw[az e,az (λz=>e (h1.trans z))];exact#[h1,h2]
def KV.put{kvs}{vs}(r:KV kvs vs)(k:κ)(ry:RelV y u):KV (putK kvs k y) (stored vs k u):=by
 unfold putK stored;rw[r.any k];by_cases e:(vs.any λkv=>decide (kv.1=k))=true
 ·rw[aH e,aH e];exact r.Ed k ry
 ·rw[az e,az e];exact Paired.snoc r #[rfl,ry]
def KV.drop{kvs}{vs}(r:KV kvs vs)(k:κ):KV (tj kvs k) (without vs k):=by
 unfold tj without
 induction r with
 |nil=>exact .nil
 |@cons p q ps qs h t ih =>
  let#[h1,h2]:=h;rw[dE,dE];by_cases e:p.1=k
  ·have a:¬decide (p.1≠k)=true:=by simp[e]
   have b:¬decide (q.1≠k)=true:=by simp[h1.symm.trans e]
   rw[az a,az b];exact ih
  ·have e':¬q.1=k:=λz=>e (h1.trans z);have a:decide (p.1≠k)=true:=by simp[e]
   have b:decide (q.1≠k)=true:=by simp[e']
   rw[aH a,aH b];exact .cons #[h1,h2] ih
def KV.keys{kvs:List (κ×V)}{vs:List (κ×Value)}(r:KV kvs vs):kvs.map (·.1)=vs.map (·.1):=by
 induction r with
 |nil=>rfl
 |cons h t ih=>simp_all
def KV.length{kvs:List (κ×V)}{vs:List (κ×Value)}(r:KV kvs vs):kvs.length=vs.length:=lW r
def UL(kvs:List (κ×V))(k:κ):(tj kvs k).length<=kvs.length:=cJ _ _
end
def qS{k}(r:RelV (kV k) u):(m4 P w).is k u=true:=by
 cases k with
 |inl i=>let#[t,e]:=(show ∃t,u=Value.int i t from r);subst e;exact aS3 P w i t
 |inr x=>let#[t,e]:=(show ∃t,u=Value.str x t from r);subst e;exact aS2 P w x t
def Oc{P}{w}:∀{ks:List Key} {us:List Value},Vals (ks.map kV) us->ItemsAre (m4 P w) ks us
 |[],_,r=>by cases r;exact .nil
 |k::ks,_,r=>by
  cases r with
  |cons h t=>exact .cons (qS h) (Oc t)
noncomputable abbrev KT(H:Hp):List (List Key×V)->List (List Key×Addr×Value)->Prop:=Paired λp q=>p.1=q.1/\H q.2.1=some (.tup (p.1.map kV))/\RelV p.2 q.2.2
def KT.val{xs}(r:KT H kvs xs)(k:List Key):J0 (R8 kvs k) ((atKey xs k).map (·.2)):=by
 induction r with
 |nil=>exact True.intro
 |@cons p q ps qs h t ih =>
  let#[h1,_,h2]:=h;by_cases e:p.1=k
  ·have e':q.1=k:=h1.symm.trans e;have b:atKey (q::qs) k=some q.2:=by simp[atKey,List.find?_cons,e']
   rw[Ey e,b];exact h2
  ·have e':¬q.1=k:=λz=>e (h1.trans z);have b:atKey (q::qs) k=atKey qs k:=by simp[atKey,List.find?_cons,e']
   rw[Ew e,b];exact ih
def KT.Ed{xs}(r:KT H kvs xs)(k:List Key)(ry:RelV y u) :
  KT H (kvs.map λkv=>if kv.1=k then(kv.1,y) else kv) (xs.map (putAt k u)):=by
 induction r with
 |nil=>exact .nil
 |@cons p q ps qs h t ih =>
  rw[cx,cx];refine .cons ?_ ih;let#[h1,h2,h3]:=h;unfold putAt;by_cases e:p.1=k
  ·rw[aH e,aH (h1.symm.trans e)];exact#[h1,h2,ry]
  ·rw[az e,az (λz=>e (h1.trans z))];exact#[h1,h2,h3]
def KT.put{xs}(r:KT H kvs xs)(k:List Key){b}(hb:H b=some (.tup (k.map kV)))(ry:RelV y u) :
  KT H (putK kvs k y) (storedH xs k b u):=by
 have e:(kvs.any λkv=>decide (kv.1=k))=(atKey xs k).isSome:=by
  rw[NM,(r.val k).X7,gI]
 unfold putK storedH;rw[e];by_cases q:(atKey xs k).isSome=true
 ·rw[aH q,aH q];exact r.Ed k ry
 ·rw[az q,az q];exact Paired.snoc r #[rfl,hb,ry]
def KT.keeps{xs}(r:KT H kvs xs)(ht:∀b ys,H b=some (.tup ys)->H' b=some (.tup ys)):KT H' kvs xs :=
 Paired.Ks r λ_ _ z=>#[z.1,ht _ _ z.2.1,z.2.2]
section
variable{h:Heap}
def JC{u}(ok:gc P w H h)(e:Rd H a u):p6 P w H h a u:=e.ok ok
def uw{kvs}(ok:gc P w H h)(e:Rd H a (.dK kvs)):kvs.length<=sizeLine/\(a==sysModules)=false/\∃vs,KV kvs vs/\h.DictOf (m4 P w) a vs :=
 show p6 P w H h a (.dK kvs) from JC ok e
def uv{kvs}(ok:gc P w H h)(e:H a=some (.dK kvs)):kvs.length<=sizeLine/\(a==sysModules)=false/\∃vs,KV kvs vs/\h.DictOf (m4 P w) a vs:=uw ok (.inl e)
def xB{ks}(ok:gc P w H h)(e:H a=some (.tup (ks.map kV))):(tupleKind (m4 P w)).is h ks a:=by
 let#[_,aU,r,o,h1,h2,#[n,h3],_]:=(show p6 P w H h a (.tup (ks.map kV)) from ok a _ e)
 exact#[o,aU.toArray,n,h1,h2,h3,by simpa using Oc r]
def xh(ok:gc P w H h)(e:Rd H a (.dT kvs)):kvs.length<=sizeLine/\(a==sysModules)=false /\
  ∃xs,KT H kvs xs/\h.DictOfH (tupleKind (m4 P w)) a xs:=by
 let#[z,y,xs,r,o,es,ep,h1,h2,h3,h4,h5]:=(show p6 P w H h a (.dT kvs) from JC ok e)
 refine#[z,y,xs,r,o,es,ep,h1,h2,h3,h4,λx hx=>?_,h5];have all:∀{l:List (List Key×V)} {m:List (List Key×Addr×Value)},KT H l m->∀x∈m,(tupleKind (m4 P w)).is h x.1 x.2.1:=by
  intro l m q
  induction q with
  |nil=>simp
  |@cons p q ps qs hq t ih =>
   intro x hx;rcases aF.mp hx with e|hx
   ·exact xB ok (by simp_all)
   ·exact ih x hx
 exact all r x hx
def b13(ok:gc P w H h)(e:H a=some (.dT kvs)):kvs.length<=sizeLine/\(a==sysModules)=false /\
  ∃xs,KT H kvs xs/\h.DictOfH (tupleKind (m4 P w)) a xs:=xh ok (.inl e)
end
abbrev ot(H:Hp)(a:Addr)(y:V)(r:Option V):Prop :=
 (∃kvs k,Rd H a (.dK kvs)/\y=kV k/\r=R8 kvs k)\/∃kvs k b,Rd H a (.dT kvs)/\y=.ref b/\H b=some (.tup (k.map kV))/\r=R8 kvs k
abbrev Av(H:Hp)(a:Addr)(y v:V)(H':Hp):Prop :=
 (∃kvs k,H a=some (.dK kvs)/\y=kV k/\kvs.length<sizeLine/\H'=upd H a (.dK (putK kvs k v))) \/
 ∃kvs k b,H a=some (.dT kvs)/\y=.ref b/\H b=some (.tup (k.map kV))/\kvs.length<sizeLine/\H'=upd H a (.dT (putK kvs k v))
def ot.k{H}{a}{kvs}{k}(e:H a=some (.dK kvs)):ot H a (kV k) (R8 kvs k):=.inl #[kvs,k,.inl e,rfl,rfl]
def Av.k{H}{a}{kvs}{k}{v}(e:H a=some (.dK kvs))(hl:kvs.length<sizeLine):Av H a (kV k) v (upd H a (.dK (putK kvs k v))):=.inl #[kvs,k,e,rfl,hl,rfl]
section
variable{v:V}{r:Value}
def Inv.big(I:Inv X pi Z H s):sysModules<s⁻¹:=by
 have h:mainGlobals<s⁻¹:=(I.mod.glob.keeps I.bk).lt;exact cR ∅ h
def WE{Q}(hu:A.units+1<cLine)(I:Inv X pi Z H s)(g:ot H a y (some v))(ry:RelV y u)(h:∀w' s',Inv X pi Z H s'->RelV v w'->Q w' s') :
  wpAny (model X.prog X.w) A (getItem (.ref a) u) Q E s:=by
 rcases g with⟨kvs,k,e,ey,l⟩|⟨kvs,k,b,e,ey,eb,l⟩
 ·subst ey;let#[z,hd,vs,rel,dd]:=uw I.bJ e;let#[w',hw,fE]:=J0.some_of (v:=v) (o:=valueAt vs k) (by rw[l];exact rel.val k);exact wpAny_getItem_of (qS ry) dd.mapOf hw (h w' _ (I.tok _) fE)
 ·subst ey;cases (show u=Value.ref b from ry);let#[z,hd,xs,rel,dd]:=xh I.bJ e;let#[w',hw,fE]:=J0.some_of (v:=v) (o:=(atKey xs k).map (·.2)) (by rw[l];exact rel.val k);let#[p,hp,qr]:=aa.mp hw;refine wpAny_getItem_heap (hZ hu) (xB I.bJ eb) dd hp ?_;rw[qr];exact h w' _ (I.tok _) fE
def b98{Q}(hu:A.units+1<cLine)(I:Inv X pi Z H s)(g:ot H a y o)(ry:RelV y u)(h:∀s',Inv X pi Z H s'->Q (.bool o.isSome) s') :
  wpAny (model X.prog X.w) A (compareOp .In u (.ref a)) Q E s:=by
 rcases g with⟨kvs,k,e,ey,l⟩|⟨kvs,k,b,e,ey,eb,l⟩
 ·subst ey;let#[z,hd,vs,rel,dd]:=uw I.bJ e;refine wpAny_in_of (qS ry) hd dd.mapOf ?_;rw[<- (rel.val k).X7,<- l];exact h _ (I.tok _)
 ·subst ey;cases (show u=Value.ref b from ry);let#[z,hd,xs,rel,dd]:=xh I.bJ e;refine wpAny_in_heap (hZ hu) (xB I.bJ eb) hd dd ?_;have q:=(rel.val k).X7;rw[gI] at q;rw[<- q,<- l];exact h _ (I.tok _)
def bE0{Q}(hu:A.units+1<cLine)(I:Inv X pi Z H s)(g:ot H a y o)(ry:RelV y u)(h:∀s',Inv X pi Z H s'->Q (.bool (!o.isSome)) s') :
  wpAny (model X.prog X.w) A (compareOp .NotIn u (.ref a)) Q E s:=by
 rcases g with⟨kvs,k,e,ey,l⟩|⟨kvs,k,b,e,ey,eb,l⟩
 ·subst ey;let#[z,hd,vs,rel,dd]:=uw I.bJ e;refine wpAny_notIn_of (qS ry) hd dd.mapOf ?_;rw[<- (rel.val k).X7,<- l];exact h _ (I.tok _)
 ·subst ey;cases (show u=Value.ref b from ry);let#[z,hd,xs,rel,dd]:=xh I.bJ e;refine wpAny_notIn_heap (hZ hu) (xB I.bJ eb) hd dd ?_;have q:=(rel.val k).X7;rw[gI] at q;rw[<- q,<- l];exact h _ (I.tok _)
def V3{h'}{t'}{ob}(I:Inv X pi Z H s)(mu:ye (H a))(hs:Heap.SameBut a s.heap h')(he:∃q,h'.get? a=some q)(new:p6 X.prog X.w (upd H a ob) h' a ob) :
  Inv X pi Z (upd H a ob) { s with heap:=h',toks:=t' } :=
 I.write (x:=a) (e:=a) mu (.inl rfl) (λb q hb z=>(hs.2 b hb).trans z) he new
def xy{h'}{kvs}{vs}(z:kvs.length<=sizeLine)(hd:(a==sysModules)=false)(rel:KV kvs vs)(dd:h'.DictOf (m4 P w) a vs) :
  p6 P w H' h' a (.dK kvs):=#[z,hd,vs,rel,dd]
def WG{Q}(hu:A.units+1<cLine)(I:Inv X pi Z H s)(g:Av H a y v H')(ry:RelV y u)(rv:RelV v r)(h:∀s',Inv X pi Z H' s'->Q Unit.unit s') :
  wpAny (model X.prog X.w) A (setItem (.ref a) u r) Q E s:=by
 rcases g with⟨kvs,k,e,ey,l,eH⟩|⟨kvs,k,b,e,ey,eb,l,eH⟩
 ·subst ey eH;let#[z,hd,vs,rel,dd]:=uv I.bJ e;have hz:vs.length<=sizeLine:=by rw[<- rel.length];exact z
  have hl:(putK kvs k v).length<=sizeLine:=by have:=W0 kvs k v;omega
  refine wpAny_setItem_pairs (hsz:=hz) (qS ry) dd λh' om hs=>h _ ?_;have he:∃q,h'.get? a=some q:=let ⟨q,_,_,hq,_⟩:=om;#[q,hq]
  exact V3 I (by rw[e];exact True.intro) hs he (xy hl hd (rel.put k rv) om)
 ·subst ey eH;cases (show u=Value.ref b from ry);let#[z,hd,xs,rel,dd]:=b13 I.bJ e;have hz:xs.length<=sizeLine:=by rw[<- lW rel];exact z
  have hl:(putK kvs k v).length<=sizeLine:=by have:=W0 kvs k v;omega
  refine wpAny_setItem_heap (hsz:=hz) (hZ hu) (xB I.bJ eb) dd λh' om hs=>h _ ?_;let#[q,es,ep,hq,h2,h3,h4,_,h5]:=om;refine V3 I (by rw[e];exact True.intro) hs #[q,hq] #[hl,hd,_,(rel.put k eb rv).keeps λc ys ec=>?_,q,es,ep,hq,h2,h3,h4,h5];rw[d0 (Xx ec e (λz=>nomatch z))];exact ec
end
section
variable{kvs:List (Key×V)}{k:Key}
def b18{v}{more}{Q}(I:Inv X pi Z H s)(e:H a=some (.dK kvs))(ry:RelV (kV k) u)(l:R8 kvs k=some v)(hm:more=[]\/∃x,more=[x])(h:∀w' s',Inv X pi Z (upd H a (.dK (tj kvs k))) s'->RelV v w'->Q w' s'):wpAny (model X.prog X.w) A (call (.builtin "dict.pop") (.ref a::u::more)) Q E s:=by
 let#[z,hd,vs,rel,dd]:=uv I.bJ e;let#[w',hw,fE]:=J0.some_of (v:=v) (o:=valueAt vs k) (by rw[<- l];exact rel.val k);have hp:(keyPart u).isSome=true:=by
  cases k with
  |inl i=>let#[t,q]:=(show ∃t,u=Value.int i t from ry);subst q;rfl
  |inr x=>let#[t,q]:=(show ∃t,u=Value.str x t from ry);subst q;rfl
 have ha:argsOk "dict.pop" #[.ref a::u::more,[]]:=by
  rcases hm with q|⟨x,q⟩
  ·subst q;exact PySem.F.args_dict_pop_2 _ _
  ·subst q;exact PySem.F.args_dict_pop_3 _ _ _
 refine call_meetsIn yo dd.typeIs PySem.F.entry_dict_pop ha (meets_dict_pop_there (m4 X.prog X.w) a (qS ry) more hm hp)
  #[vs,w',dd,by rw[<- rel.length];exact z,hw,λh' om hs=>h w' _ ?_ fE]
 have he:∃q,h'.get? a=some q:=let ⟨q,_,_,hq,_⟩:=om;#[q,hq]
 exact V3 I (by rw[e];exact True.intro) hs he (xy (aD (UL kvs k) z) hd (rel.drop k) om)
def b19{Q}(I:Inv X pi Z H s)(e:Rd H a (.dK kvs))(h:∀t s',Inv X pi Z H s'->Q (.int kvs.length t) s'):wpAny (model X.prog X.w) A (call (.builtin "len") [.ref a]) Q E s:=by
 let#[z,hd,vs,rel,dd]:=uw I.bJ e;refine call_len_dict hd dd (by rw[<- rel.length];rw[kq] at z;omega) ?_;rw[<- rel.length];exact h _ _ (I.tok _)
end
def aT0(I:Inv X pi Z H s)(g:ot H a y o):s.TypeIs (.ref a) "dict":=by
 rcases g with⟨kvs,k,e,_,_⟩|⟨kvs,k,b,e,_,_,_⟩
 ·let#[_,_,vs,_,dd]:=uw I.bJ e;exact dd.typeIs
 ·let#[_,_,xs,_,dd]:=xh I.bJ e;exact dd.typeIs
def Nk(h:Heap)(hb:sysModules<h.objs.size):p6 P w H (h.push { cls:=.type "dict",data:=.dict (List.toArray []) }) h.objs.size (.dK []) :=
 #[bO _,eE.mpr (aZ (aN hb)),[],.nil,Heap.DictOf.new h]
abbrev bH3:TE:=λ_ H Q=>∀p,H p=none->Q (.ref p) (upd H p (.dK []))
def Vr:PE X (.Dict [] [] pos) bH3:=λpi s Z H Q I h =>
 wpAny_Dict_empty #[.ref s⁻¹,_,I.laid (a:=s⁻¹) (o:=.dK []) (t':=s.toks) (λ_ _ q=>aj _ q) (av _) (Nk s.heap I.big),rfl,h _ (I.bJ.fresh (av _))]
abbrev zp:List (TE×TE)->St->Hp->(List (V×V)->Hp->Prop)->Prop
 |[],_,H,Q=>Q [] H
 |(tk,tv)::r,Z,H,Q=>tk Z H λx H1=>tv Z H1 λy H2=>zp r Z H2 λps H3=>Q ((x,y)::ps) H3
noncomputable abbrev VV:List (V×V)->List (Value×Value)->Prop:=Paired λp q=>RelV p.1 q.1/\RelV p.2 q.2
abbrev yc(X:Cx)(pos:Pos)(keys:List (Option Expr))(values:List Expr)(iq:List (TE×TE)):Prop :=
 ∀(pi:List (Addr×Obj)) (s:Shared) (Z:St) (H:Hp) (Q:List (V×V)->Hp->Prop),Inv X pi Z H s->zp iq Z H Q ->
  wpAny (model X.prog X.w) X.A (evalPairs (pairTrees keys values X.env pos)) (λvs s'=>∃ps H',Inv X pi Z H' s'/\VV ps vs/\Q ps H') X.xe s
def Ti:yc X pos [] [] []:=λpi s Z H Q I h=>pairTrees_nil_walk #[[],H,I,.nil,h]
def VC{k v}{ks}{vs}{tk tv}{iq}(hk:PE X k tk)(hv:PE X v tv)(hr:yc X pos ks vs iq) :
  yc X pos (some k::ks) (v::vs) ((tk,tv)::iq):=λpi s Z H Q I h =>
 pairTrees_cons_walk (cE (hk pi s Z H _ I h) λu s1 ⟨x,H1,I1,rx,q1⟩=>cE (hv pi s1 Z H1 _ I1 q1) λw2 s2 ⟨y,H2,I2,ry,q2⟩ =>
  cE (hr pi s2 Z H2 _ I2 q2) (by rintro ws s3 ⟨ps,H3,I3,rel,q3⟩;exact #[(x,y) :: ps,H3,I3,.cons #[rx,ry] rel,q3]))
abbrev tF(kvs more:List (Key×V)):List (Key×V):=more.foldl (λacc kv=>putK acc kv.1 kv.2) kvs
def KV.merge:∀{more:List (Key×V)} {rs:List (Key×Value)} {kvs:List (Key×V)} {vs:List (Key×Value)},KV more rs->KV kvs vs->KV (tF kvs more) (merged vs rs):=by
 intro more rs kvs vs r
 induction r generalizing kvs vs with
 |nil=>intro q;exact q
 |@cons p q ps qs h t ih =>
  intro r0;have e:KV (putK kvs p.1 p.2) (stored vs q.1 q.2):=by
   have:=r0.put p.1 h.2;rw[<- h.1];exact this
  exact ih e
def LW:∀(more kvs:List (Key×V)),(tF kvs more).length<=kvs.length+more.length
 |[],kvs=>by change kvs.length<=kvs.length+0;omega
 |p::r,kvs=>by
  have h1:=LW r (putK kvs p.1 p.2);have h2:=W0 kvs p.1 p.2;show(tF (putK kvs p.1 p.2) r).length<=_
  grind
def KO{P}{w}:∀{kvs:List (Key×V)} {ws:List (Value×Value)},VV (kvs.map λkv=>(kV kv.1,kv.2)) ws->∃rs,Carries (m4 P w) ws rs/\KV kvs rs
 |[],_,r=>by cases r;exact#[[],True.intro,.nil]
 |p::kvs,_,r=>by
  cases r with
  |@cons a b as bs h t =>
   let#[rs,c,q]:=KO (P:=P) (w:=w) t;let#[b1,b2]:=b;exact#[(p.1,b2)::rs,#[qS h.1,rfl,c],.cons #[rfl,h.2] q]
abbrev Yg(iq:List (TE×TE)):TE:=λZ H Q=>∀p,H p=none->zp iq Z (upd H p (.dK [])) λps H2=>H2 p=some (.dK [])/\∃kvs:List (Key×V),ps=kvs.map (λkv=>(kV kv.1,kv.2))/\kvs.length<=15/\Q (.ref p) (upd H2 p (.dK (tF [] kvs)))
def bA2{keys}{values}{iq}(h:yc X pos keys values iq)(kh:keys.all (·.isSome)=true)(hl:keys.length=values.length)(h0:keys≠[])(qy:keys.length<=15):PE X (.Dict keys values pos) (Yg iq):=by
 intro pi s Z H Q I q;have hn:=I.bJ.fresh (av s⁻¹);have I1:=I.laid (a:=s⁻¹) (o:=.dK []) (h':=s.heap.push { cls:=.type "dict",data:=.dict (List.toArray []) }) (t':=s.toks) (λ_ _ q=>aj _ q) (av _) (Nk s.heap I.big);refine wpAny_Dict_walk (knd:=m4 X.prog X.w) kh hl h0 qy (cE (h pi _ Z _ _ I1 (q _ hn)) λws s2 bp=>?_);let#[ps,H2,I2,rel,e,kvs,ep,lk,q2]:=bp;subst ep;let#[rs,c,rk]:=KO (P:=X.prog) (w:=X.w) rel;let#[z,hd,vs0,r0,dd]:=uv I2.bJ e;cases r0;refine#[rs,c,dd,λh' om hs=>#[.ref s⁻¹,_,?_,rfl,q2]];have hz:(tF [] kvs).length<=sizeLine:=by
  have h1:=LW kvs [];rw[List.length_nil] at h1;rw[kq];omega
 have he:∃q,h'.get? s⁻¹=some q:=let ⟨q,_,_,hq,_⟩:=om;#[q,hq]
 exact V3 I2 (by rw[e];exact True.intro) hs he (xy hz hd (rk.merge .nil) om)
end L2
namespace OZ
open PySem PySem.W PySem.Calls PyProof.Rows
def ay0{P}{h}:∀(ns:List Int) (vs:List Value),WellAll P h vs (ns.map WData.int)->IntsAre vs ns:=by
 intro ns
 induction ns with
 |nil =>
  intro vs w;cases w;exact .nil
 |cons n ns ih =>
  intro vs w;cases w with
  |cons a b =>
   cases a;exact .cons _ _ (ih _ b)
def a78{l:OpenLaw}{n:Nat}(hn:l.most=some n){P:Params}{h:Heap}{args:List WData}{vals:List Value}(pq:l.row.toRowW.claim.pre args=true)(BG:WellAll P h vals args) :
  ∃a vs ns,vals=[Value.ref a]/\args=[WData.list (ns.map WData.int)]/\h.get? a=some { cls:=.type "list",data:=.seq vs.toArray }/\IntsAre vs ns/\ns.length<=n:=by
 have QL:WShape.hasAll [] args [.list .int]=true:=(pre_splitW pq).1;have hc:l.pre.holds [] { args:=args }=true:=(pre_splitW pq).2;let#[d,r,rfl,h1,h2]:=hasAllW_cons QL;obtain rfl:=hasAllW_nil h2;let#[xs,rfl,h3]:=hasW_list h1;let#[ns,rfl]:=items_int h3;have hlen:ns.length<=n:=by
  have h4:(WTm.not (.lt (.lit (.int (n:Int))) (.len (.arg 0)))).holds [] { args:=[.list (ns.map .int)] }=true:=by
   have h4:=(holds_andW hc).1;rw[hn] at h4;exact h4
  have h5:=condW_of h4 (w_not (w_lt w_lit (w_len_list (w_arg rfl))))
  simp_all
 cases BG with
 |cons w1 w2 =>
  cases w2;cases w1 with
  |list ho kh=>exact#[_,_,ns,rfl,rfl,ho,ay0 ns _ kh,hlen]
def a86(l:OpenLaw)(args:List WData):l.row.toRowW.claim.post args (.bool true) args=true :=
 postW_of (r:=l.row.toRowW) (X:=(true==true))
  (show WShape.has [] (.bool true) .bool=true by rfl)
  (show(WTm.eq .res (.lit (.bool true))).value [] { args:=args,res:=some (.bool true),after:=args }=some (.bool (true==true)) from w_eq_bool (w_res rfl) w_lit) rfl
def aT4{l:OpenLaw}{n:Nat}{q:Program}{loose:List Str}{XP:(Str->Option Value)->Heap->Prop}{YP:World->Heap->Prop}{d:DefRec}(hn:l.most=some n)(wo:d.params.defaults=[])(call:∀ (w:World) (dt bz:Shared) (mg mb:Str->Option Value) (fa:Addr) (o:Obj) (pm cd doc:Value) (a:Addr) (vs:List Value) (ns:List Int),
   Ground q loose [] XP w dt mg mb bz.heap->YP w bz.heap ->
   bz.heap.get? fa=some o->o.data=.func (docDef d.name d.params d.body d.scope pm cd doc)->bz.heap.CodeRec cd d.name->mg d.name=some (.ref fa) ->
   bz.heap.get? a=some { cls:=.type "list",data:=.seq vs.toArray }->IntsAre vs ns->ns.length<=n->bz.gens=(List.toArray []) ->
   codeAny (model l.prog w) callerA (.call (.ref fa) #[[.ref a],[]]) (λr s'=>r=.ok (.ret (.bool true))/\OldK bz.heap s'.heap/\s'.os=bz.os/\AllBare s'.gens) bz) :
  WalkO q loose XP YP l.row.toRowW d [] (λf vs=>PySem.call f vs):=by
 intro w dt bz mg mb G Y fa o pm cd doc dV kV ho hd lP hD hmg hg args vals as pq Ra hrd BG hlo;obtain rfl:dV=.none:=Dflts.none hD wo;obtain rfl:kV=.none:=Dflts.noKw hD;let#[a,vs,ns,rfl,rfl,kO,hints,hlen]:=a78 hn pq BG;refine enter_call (gO (call w dt bz mg mb fa o pm cd doc a vs ns G Y ho (fd_plain hd) lP hmg kO hints hlen hg) λr s' hq=>?_);let#[rfl,h2,h3,h4]:=hq;exact#[.inl #[.bool true,.bool true,[],rfl,λ_=>rfl,.bool true,a86 l _,λ_=>#[List.Pairwise.nil,λ_ hm=>(nomatch hm)]],h2,h3,h4]
end OZ
namespace L2
open PySem PySem.Spec PyProof.Rows
variable{w:World}{x qual:Str}{X:Cx}{A:Around}{s:Shared}{elt iter tg:Expr}{ifs:List Expr}{scope:Scope}{pos:Pos}{cl:List (Str×Addr)}{C:Addr}{N':List Str}{d6:List Nat}{fp:List Addr}{g:TG}{tc:TT}{te:TE}
def Oq:∀{vs:List Value} {ns:List Int},IntsAre vs ns->Vals (ns.map V.int) vs
 |_,_,.nil=>.nil
 |_,_,.cons n t h=>.cons #[t,rfl] (Oq h)
abbrev Aw(H:Hp):Prop:=∀b,H b=none\/∃o xs,H b=some (.jJ o (.lst xs))
def Vb{P}{K}{mg mb}{CX}{k}{fa a}{fd}{sp}{bz}{vs}{ns}(KX:K.In bz.heap)(yP:bz.heap.Ns mainGlobals mg)(hb:bz.heap.Ns builtinsNs mb)(Cg:∀x:Str,x≠"__name__"->mb x=bootBuiltins x)(BV:bz.heap.NoLimit)(hg:bz.gens=(List.toArray []))(ha:bz.heap.get? a=some { cls:=.type "list",data:=.seq vs.toArray })(hi:IntsAre vs ns)(hl:ns.length<=sizeLine)(hr:w6 k callerA)(F:∀base:Heap,K.In base->base.Ns mainGlobals mg->gH P w K mg base CX k fa fd [x] sp)(wu:∀(s:Shared) (u:Value),BindsTo s fd #[[u],[]] [(x,u)])(tW:∀H:Hp,Aw H->fq K H a (ns.map V.int)->sp [.ref a] H (λv _=>v=.bl true) λ_ _ _=>False)(Cy:∀H e s',CX [] H bz (λ_ _ _=>False) e s'->False) :
  codeAny (model P w) callerA (.call (.ref fa) #[[.ref a],[]]) (λr s'=>r=.ok (.ret (.bool true))/\OldK bz.heap s'.heap/\s'.os=bz.os/\AllBare s'.gens) bz:=by
 have rv:=Oq hi;have Qu:=hi.length;have core:∀H:Hp,Aw H->fq K H a (ns.map V.int)->gc P w H bz.heap->(∀b,H b≠none->b=a)->(H a≠none->K.lookup a=none) ->
   codeAny (model P w) callerA (.call (.ref fa) #[[.ref a],[]]) (λr s'=>r=.ok (.ret (.bool true))/\OldK bz.heap s'.heap/\s'.os=bz.os/\AllBare s'.gens) bz:=by
  intro H hO hS bJ hA hK;have L8:∀{b:Addr} {o:Obj},bz.heap.get? b=some o->H b=none->(pN bz.heap H).get? b=some o:=λe n=>UT e n;have vE:∀{b:Addr} {o:Obj} {es:Array DictEntry} {ep:Nat},bz.heap.get? b=some o->o.data=.dict es ep->H b=none:=λ{b o es ep} e d=>by
   grind
  have yD:∀{b:Addr} {m:Str->Option Value},bz.heap.Ns b m->(pN bz.heap H).Ns b m:=λ{b m} ⟨o,es,ep,e,d,r⟩=>#[o,es,ep,L8 e (vE e d),d,r]
  have Iv:K.In (pN bz.heap H):=λb o e=>L8 (KX b o e) (by
   grind)
  have hM:Mod K mg (pN bz.heap H):=#[Iv,yD yP,#[mb,yD hb,Cg],let ⟨mc,h1,h2⟩:=BV;#[mc,yD h1,h2]]
  have e0:sO P w K mg (pN bz.heap H) callerA [] bz H:=#[rfl,hM,λb o e=>bB7 e,Nat.le_of_eq (WR _ _),trivial,λb hb=>absurd (show b∈([]:List Addr) from hb) #[_],bJ,.of_eq hg]
  refine gO ((F _ Iv (yD yP)).run callerA [] bz H #[[.ref a],[]] [.ref a] [.ref a] _ _ hr e0 (wu bz (.ref a)) (.cons rfl .nil) (tW H hO hS)) λr s' h=>?_;cases r with
  |error e=>exact(Cy H e s' h).elim
  |ok fl =>
   cases fl with
   |next=>exact False.elim h
   |brk=>exact False.elim h
   |cont=>exact False.elim h
   |ret u =>
    let#[v,H',os,bare,un,BN,r',q]:=h;have q':v=.bl true:=q;subst q';obtain rfl:u=Value.bool true:=r';refine#[rfl,OldK.of_keep λb o e=>?_,os,bare];cases q:H b with
    |none=>exact un.keep b o e q (by intro z;exact absurd (show b∈([]:List Addr) from z) #[_]) #[_]
    |some u =>
     rcases hO b with z|⟨ob,xs,z⟩
     ·simp_all
     ·have z2:=un.ic b ob _ z;let#[e1,_]:=bJ b _ z;let#[e2,_]:=BN b _ z2
      simp_all
 cases hk:K.lookup a with
 |some o =>
  have e:=KX a o hk;rw[ha] at e;cases e;refine core (λ_=>none) (λ_=>.inl rfl) (.inr #[_,vs.toArray,_,hk,rfl,rfl,rfl,by simp_all,by simpa using rv]) (λb u z=>by simp_all) (λb z=>absurd rfl z) λz=>absurd rfl z
 |none =>
  refine core (λb=>if b=a then some (.jJ { cls:=.type "list",data:=.seq vs.toArray } (.lst (ns.map V.int))) else none) (λb=>?_) (.inl (.inr #[{ cls:=.type "list",data:=.seq vs.toArray },aH rfl])) (λb u z=>?_) (λb z=>?_) λ_=>hk
  ·by_cases hb:b=a
   ·exact .inr #[_,_,aH hb]
   ·exact .inl (az hb)
  ·by_cases hb:b=a
   ·have z':=(aH hb).symm.trans z;cases z';subst hb;exact#[ha,by rw[ai];exact hl,vs,_,rv,ha]
   simp_all
  ·by_cases hb:b=a
   ·exact hb
   ·exact absurd (az hb) z
def Ur{l:PySem.W.OpenLaw}{n k:Nat}{q:Program}{loose:List Str}{XP:(Str->Option Value)->Heap->Prop}{YP:World->Heap->Prop}{d:DefRec}{K:Params->PySem.W.Frag}{CX:World->nH}{sp:World->Sp}(hn:l.most=some n)(pv:n<=sizeLine)(wo:d.params.defaults=[])(hr:w6 k callerA)(hY:∀(w:World) (h:Heap),YP w h->(K w.params).In h)(F:∀ (w:World) (mg:Str->Option Value) (fa:Addr) (h:Heap),(K w.params).In h->h.Ns mainGlobals mg->mg d.name=some (.ref fa) ->
   ∃fd:FuncData,(∀(s:Shared) (u:Value),BindsTo s fd #[[u],[]] [(x,u)]) /\
    ∀ base:Heap,(K w.params).In base->base.Ns mainGlobals mg->gH l.prog w (K w.params) mg base (CX w) k fa fd [x] (sp w))(tW:∀(w:World) (H:Hp) (a:Addr) (ns:List Int),ns.length<=n->Aw H->fq (K w.params) H a (ns.map V.int)->sp w [.ref a] H (λv _=>v=.bl true) λ_ _ _=>False)(Cy:∀(w:World) (H:Hp) (s:Shared) (e:Value) (s':Shared),CX w [] H s (λ_ _ _=>False) e s'->False) :
  PySem.W.WalkO q loose XP YP l.row.toRowW d [] (λf vs=>PySem.call f vs):=by
 refine OZ.aT4 hn wo λw dt bz mg mb fa o pm cd doc a vs ns G Y ho hd lP hmg kO hints hlen hg=>?_;have KX:=hY w _ Y;let#[fd,hb,hF]:=F w mg fa _ KX G.T.g hmg;exact Vb KX G.T.g G.T.b G.T.builtins G.T.nolimit hg kO hints (aD hlen pv) hr hF hb (λH hO hS=>tW w H a ns hlen hO hS) λH e s'=>Cy w H bz e s'
abbrev G0(s:Stmt):Arguments:=match s with
 |.FunctionDef _ a _ _ _ _ _ _ _ _=>a
 |_=>{ posonlyargs:=[],args:=[],vararg:=none,kwonlyargs:=[],kw_defaults:=[],kwarg:=none,defaults:=[] }
abbrev u4(s:Stmt):List Stmt:=match s with
 |.FunctionDef _ _ b _ _ _ _ _ _ _=>b
 |_=>[]
abbrev t8(s:Stmt):Scope:=match s with
 |.FunctionDef _ _ _ _ _ _ sc _ _ _=>sc
 |_=>{ kind:=.function,names:=[],isGenerator:=false,isCoroutine:=false }
structure rh(K:PySem.W.Frag)(x qual:Str)(st:Stmt)(f:Addr)(fd:FuncData):Prop where
 ex:∃(oc:Value) (od:Option Addr) (kV doc pm:Value) (an:Option Addr) (fN ct:Value) (mh:Array (Option Value)),
  fd=PySem.W.fnOf x qual (G0 st) (u4 st) (t8 st) .none kV doc pm an fN ct/\K.lookup f=some #[oc,od,.func fd,mh]/\PySem.W.codeIn K fN qual=true
 kp:PySem.W.keepIn K (.ref f)=true
section
variable{K:PySem.W.Frag}
def rh.binds{st}{f}{fd}{ps}(F:rh K x qual st f fd)(h:∀(kV doc pm:Value) (an:Option Addr) (fN ct:Value) (us:List Value),us.length=ps.length->bindArgs (PySem.W.fnOf x qual (G0 st) (u4 st) (t8 st) .none kV doc pm an fN ct) #[us,[]]=pure (ps.zip us)):Binds K fd ps []:=by
 let#[oc,od,kV,doc,pm,an,fN,ct,mh,rfl,lk,lP]:=F.ex;exact .all (h kV doc pm an fN ct)
def Ka{st}{f}{oc}{od an}{mh}{kV doc pm fN ct}(l:K.lookup f=some #[oc,od,.func (PySem.W.fnOf x qual (G0 st) (u4 st) (t8 st) .none kV doc pm an fN ct),mh])(c:PySem.W.codeIn K fN qual=true)(k:PySem.W.keepIn K (.ref f)=true):rh K x qual st f (PySem.W.fnOf x qual (G0 st) (u4 st) (t8 st) .none kV doc pm an fN ct):=#[#[oc,od,kV,doc,pm,an,fN,ct,mh,rfl,l,c],k]
end
def WA:p9 X (.builtin "len") (λxs H Q=>∃a kvs,xs=[V.ref a]/\H a=some (.dK kvs)/\Q (.int kvs.length) H):=by
 intro pi s Z H xs us Q I r h;let#[a,kvs,rfl,ha,q]:=h;let#[u,rfl,ru]:=vals1 r;cases ru;exact b19 I (.inl ha) λt s' I'=>#[.int kvs.length,H,I',#[t,rfl],q]
section
variable{prog:Program}{R:Result->Shared->Prop}
def aQ1{target}{it acc}{env}(I:Nat->Shared->Prop)(turn:∀ n s,I n s->wpAny (model prog w) A (pyNext it) (λr bz=>match r with
   |none=>R (.ok .next) bz
   | some v=>wpAny (model prog w) A (letOwnedTupleGo target it v) (λ_ bz=>wpAny (model prog w) A (assign target env v) (λ_ eT =>
     wpAny (model prog w) A (forIn ifs true λc r=>if r=true then do let ok <- isTrue c env (eval c env);pure (ForInStep.yield ok) else pure (ForInStep.yield r)) (λok dQ =>
      if ok=true then wpAny (model prog w) A (eval elt env) (λx fG =>
       wpAny (model prog w) A (call (.builtin "list.append") [acc,x]) (λ_ gx=>∃ m,m < n/\I m gx) (λ_ _=>False) fG) (notedBy (model prog w) A env λe s'=>R (.error e) s') dQ
      else ∃ m,m < n/\I m dQ) (λ_ _=>False) eT) (λ_ _=>False) bz) (λ_ _=>False) bz) (λ_ _=>False) s)(n:Nat)(h:I n s) :
  codeAny (model prog w) A (.compLoop (.ListComp elt [#[target,iter,ifs,0]] scope pos) 0 it acc env) R s:=by
 refine codeAny_loop rfl I (λn s hI=>?_) n h;change wpAny _ A ((compTurn (.ListComp elt [#[target,iter,ifs,0]] scope pos) 0 it acc env).onRaise (λx=>do noteFrame x env;theTreesLotGoes x)) _ _ s;refine wpAny_noted ?_;rw[compTurn_list];refine ae (cZ (ae (aY (turn n s hI) (λr bz cM=>?_) λ_ _ h'=>h'.elim)));cases r with
 |none=>exact ak cM
 |some v =>
  refine ae (aY cM (λ_ bz cM=>?_) λ_ _ h'=>h'.elim);refine ae (aY cM (λ_ eT gj=>ae (aY gj (λok dQ kf=>?_) λ_ _ h'=>h'.elim)) λ_ _ h'=>h'.elim);cases ok with
  |false=>exact wpAny_pure #[rfl,kf]
  |true =>
   exact ae (ae (aY kf (λx fG mS=>ae (aY mS (λ_ gx mR=>ak (ak #[rfl,mR])) λ_ _ h'=>h'.elim)) λ_ _ h'=>h'))
end
abbrev jy(X:Cx)(es:List Expr)(t:TT):Prop :=
 ∀(pi:List (Addr×Obj)) (s:Shared) (Z:St) (H:Hp) (Q:Bool->Hp->Prop),Inv X pi Z H s->t Z H Q ->
  wpAny (model X.prog X.w) X.A (forIn es true λc r=>if r=true then do let ok <- isTrue c X.env (eval c X.env);pure (ForInStep.yield ok) else pure (ForInStep.yield r)) (TP X pi Z Q) X.xe s
abbrev KC:TT:=λ_ H Q=>Q true H
def MJ:jy X [] KC:=λpi s Z H Q I h=>ak #[H,I,h]
def MK{c}{t}(h:PT X c t):jy X [c] t:=by
 intro pi s Z H Q I q;exact ae (ae (aY (h pi s Z H Q I q) (λb s' hb=>ak (ak hb)) λ_ _ x=>x))
abbrev E8(scope:Scope)(cl:List (Str×Addr))(C:Addr):List (Str×Addr):=cellsFrom (C+1) scope.names []++cl
def L6:∀(names:List (Str×NameKind)) (n:Nat) (acc:List (Str×Addr)),cellsFrom n names acc=cellsFrom n names []++acc
 |[],_,_=>rfl
 |(y,k)::r,n,acc=>by
  unfold cellsFrom;split
  ·rw[L6 r (n+1) ((y,n)::acc),L6 r (n+1) [(y,n)],gL]
   rfl
  ·exact L6 r n acc
def Fj{x}{c}:∀{names:List (Str×NameKind)} {n:Nat},(x,c)∈cellsFrom n names []->(x,NameKind.cell)∈names
 |[],_,h=>by simp[cellsFrom] at h
 |(y,k)::r,n,h=>by
  unfold cellsFrom at h;split at h
  ·rw[L6] at h;rcases bD.mp h with z|z
   ·exact bX _ (Fj z)
   grind
  ·exact bX _ (Fj h)
def T3{α:Type}:∀{a b:List (Str×α)},(a++b).lookup x=(a.lookup x).or (b.lookup x)
 |[],_=>rfl
 |(y,v)::r,b=>by
  grind
def NT(h:scope.names.lookup x=some .cell\/∃c,cl.lookup x=some c):∃c,(E8 scope cl C).lookup x=some c:=by
 unfold E8;rw[T3];cases e:(cellsFrom (C+1) scope.names []).lookup x with
 |some c=>exact#[c,rfl]
 |none =>
  rcases h with h|h
  ·have q:=dH scope.names (C+1) [] (.inl h);rw[e] at q;cases q
  ·exact h
def T8{env:Env}:∀{names:List (Str×NameKind)} {x:Str},names.lookup x=some .cell ->
  (names.map λ(n,k)=>if(k==NameKind.free&&env.scope.kind==.function&&env.kindOf n==some .cell) then(n,NameKind.cell) else(n,k)).lookup x=some .cell
 |[],_,h=>by simp at h
 |(n,k)::r,x,h=>by
  have ih:=@T8 env r x;change List.lookup x ((if(k==NameKind.free&&env.scope.kind==.function&&env.kindOf n==some .cell)=true then(n,NameKind.cell) else(n,k))::_)=_;cases hx:x==n with
  |true =>
   simp only[List.lookup_cons,hx] at h
   simp_all
  |false =>
   simp only[List.lookup_cons,hx] at h;by_cases hc:(k==NameKind.free&&env.scope.kind==.function&&env.kindOf n==some .cell)=true
   ·rw[aH hc];simp only[List.lookup_cons,hx];exact ih h
   ·rw[az hc];simp only[List.lookup_cons,hx];exact ih h
def Ni{h}(ck:CellsOk h (C+1) (cellsFrom (C+1) scope.names [])){c}(e:(E8 scope cl C).lookup x=some c):C<c\/cl.lookup x=some c:=by
 unfold E8 at e;rw[T3] at e;cases e2:(cellsFrom (C+1) scope.names []).lookup x with
 |some c' =>
  rw[e2] at e;cases e;exact .inl (ck.empty x c (aO e2)).2
 |none =>
  rw[e2] at e;exact .inr e
def X9{M}{E}{globals}{outer}{Q}(hQ:∀ cM:Heap,cM.Ns s⁻¹ (λ_=>none)->(∀ b o,s.heap.get? b=some o->cM.get? b=some o)->CellsOk cM (s⁻¹ + 1) (cellsFrom (s⁻¹ + 1) scope.names []) ->
   Q (newEnv scope s⁻¹ globals (E8 scope cl s⁻¹) qual none .none (some outer) builtinsNs) { s with heap:=cM }) :
  wpAny M A (newFunctionEnv scope globals cl [] qual none .none (some outer)) Q E s:=by
 simp only[newFunctionEnv,Option.isSome_some,if_true];refine ae (wpAny_alloc ?_);refine ae (wpAny_layCells _ (λname kind cells=>by rfl) _ _ _ _ ?_);have ok:=cellsFrom_ok scope.names (s.heap.push { cls:=.type "dict",data:=.dict (List.toArray []) }) (s⁻¹+1) [] #[λ_ _ hm=>(nomatch hm),List.Pairwise.nil] #[_];rw[dM] at ok;rw[show({ s with heap:=s.heap.push { cls:=.type "dict",data:=.dict (List.toArray []) } }:Shared).heap.objs.size=s⁻¹+1 from dM ..];refine ae (ak (ak ?_));rw[L6];exact hQ _ ((Heap.Ns.new s.heap (.type "dict")).keeps (pushCells_keeps _ _)) (λb o e=>pushCells_keeps _ _ b o (aj _ e)) ok
abbrev f6(X:Cx)(pi:List (Addr×Obj))(scope:Scope)(N':List Str)(cl:List (Str×Addr))(C:Addr)(s:Shared)(H:Hp)(fp:List Addr):Cx where
 prog:=X.prog
 w:=X.w
 K:=X.K
 mg:=X.mg
 base:=X.base
 A:=X.A
 N:=N'
 dt:=s
 ju:=H
 env:=compEnvC scope (E8 scope cl C) C X.env
 outer:=X.stack
 stack:=X.stack
 ex:=fp
 calm:=true
 fn:=λx=>decide (scope.names.lookup x=some .cell)
 pn:=X.pn++pi
 xe:=λ_ _=>False
structure cC(X:Cx)(scope:Scope)(N':List Str)(d6:List Nat)(cl:List (Str×Addr)):Prop where
 kind:scope.kind=.function
 cells:∀y∈scope.names,y.2=.cell->scope.names.lookup y.1=some .cell
 names:∀y∈scope.names,y.2=.local->scope.names.lookup y.1=some .local
 nt:closureFor scope X.env=pure cl
 cin:∀x c,cl.lookup x=some c->X.env.cells.lookup x=some c
 xb:∀x,scope.names.lookup x=some .free->∃c,cl.lookup x=some c
 nd:N'.Nodup
 SV:∀(i j:Nat),d6[i]?=some j->∃x,N'[i]?=some x/\X.N[j]?=some x/\scope.names.lookup x=some .free/\(X.env.kindOf x=some .cell\/X.env.kindOf x=some .free)
 DK:d6.length<=N'.length
def M0{env:Env}:∀{names:List (Str×NameKind)} {x:Str},names.lookup x=some .free ->
  (names.map λ(n,k)=>if(k==NameKind.free&&env.scope.kind==.function&&env.kindOf n==some .cell) then(n,NameKind.cell) else(n,k)).lookup x=some .cell \/
  (names.map λ(n,k)=>if(k==NameKind.free&&env.scope.kind==.function&&env.kindOf n==some .cell) then(n,NameKind.cell) else(n,k)).lookup x=some .free
 |[],_,h=>by simp at h
 |(n,k)::r,x,h=>by
  have ih:=@M0 env r x;change List.lookup x ((if(k==NameKind.free&&env.scope.kind==.function&&env.kindOf n==some .cell)=true then(n,NameKind.cell) else(n,k))::_)=_\/List.lookup x ((if(k==NameKind.free&&env.scope.kind==.function&&env.kindOf n==some .cell)=true then(n,NameKind.cell) else(n,k))::_)=_;cases hx:x==n with
  |true =>
   simp only[List.lookup_cons,hx] at h;cases h;by_cases hc:(NameKind.free==NameKind.free&&env.scope.kind==.function&&env.kindOf n==some .cell)=true
   ·rw[aH hc];simp[List.lookup_cons,hx]
   ·rw[az hc];simp[List.lookup_cons,hx]
  |false =>
   simp only[List.lookup_cons,hx] at h;by_cases hc:(k==NameKind.free&&env.scope.kind==.function&&env.kindOf n==some .cell)=true
   ·rw[aH hc];simp only[List.lookup_cons,hx];exact ih h
   ·rw[az hc];simp only[List.lookup_cons,hx];exact ih h
def T9{env:Env}:∀{names:List (Str×NameKind)} {x:Str},((names.map λ(n,k)=>if(k==NameKind.free&&env.scope.kind==.function&&env.kindOf n==some .cell) then(n,NameKind.cell) else(n,k)).lookup x=some .cell \/
  (names.map λ(n,k)=>if (k == NameKind.free && env.scope.kind == .function && env.kindOf n == some .cell) then (n,NameKind.cell) else (n,k)).lookup x=some .free)->names.lookup x=some .free \/ names.lookup x=some .cell
 |[],_,h=>by simp at h
 |(n,k)::r,x,h=>by
  have ih:=@T9 env r x;rw[cx] at h;cases hx:x==n with
  |true =>
   simp only[List.lookup_cons,hx];by_cases hc:(k==NameKind.free&&env.scope.kind==.function&&env.kindOf n==some .cell)=true
   ·refine .inl ?_;simp only[Bool.and_eq_true,beq_iff_eq] at hc;rw[hc.1.1]
   ·simp only[if_neg hc,List.lookup_cons,hx] at h;rcases h with h|h
    ·exact .inr h
    ·exact .inl h
  |false =>
   simp only[List.lookup_cons,hx];by_cases hc:(k==NameKind.free&&env.scope.kind==.function&&env.kindOf n==some .cell)=true
   ·simp only[if_pos hc,List.lookup_cons,hx] at h;exact ih h
   ·simp only[if_neg hc,List.lookup_cons,hx] at h;exact ih h
abbrev C9(Z:St)(d6:List Nat)(n:Nat):St:=d6.map (λj=>(Z[j]?).join)++List.replicate (n-d6.length) none
section
variable{pi:List (Addr×Obj)}{Z:St}{H:Hp}
def Inv.a39{h1}{tk}(I:Inv X pi Z H s)(S:cC X scope N' d6 cl)(hc:X.calm=true)(hf:∀b∈fp,K8 X pi H b)(ho:∀b∈fp,∃o,s.heap.get? b=some o)(hC:s⁻¹<=C)(hn:∃m,h1.Ns C m)(k:∀b o,s.heap.get? b=some o->h1.get? b=some o)(ck:CellsOk h1 (C+1) (cellsFrom (C+1) scope.names [])) :
  Inv (f6 X pi scope N' cl C s H fp) [] (C9 Z d6 N'.length) H { s with heap:=h1,toks:=tk }:=by
 let#[m,hm]:=hn;have Rf:(relabel scope X.env).kind=.function:=S.kind;have HC:∀b o,s.heap.get? b=some o->b≠C:=λb o e z=>absurd (aC e) (by simp_all);have two:∀{x:Str} {c:Addr},(E8 scope cl C).lookup x=some c->(C<c/\h1.IsCell c none/\(x,c)∈cellsFrom (C+1) scope.names [])\/(cl.lookup x=some c/\(cellsFrom (C+1) scope.names []).lookup x=none):=λ{x c} h=>by
  unfold E8 at h;rw[T3] at h;cases e:(cellsFrom (C+1) scope.names []).lookup x with
  |some c' =>
   rw[e] at h;cases h;have hm:=aO e;exact .inl #[(ck.empty x c hm).2,(ck.empty x c hm).1,hm]
  |none =>
   rw[e] at h;exact .inr #[h,rfl]
 have vB:∀{x:Str} {c:Addr},cl.lookup x=some c->c<s⁻¹:=λ{x c} h=>by
  let#[v,o,e,_]:=I.cell x c (S.cin x c h);exact aC e
 have frees:∀{x:Str},scope.names.lookup x=some .free->(E8 scope cl C).lookup x=cl.lookup x:=λ{x} h=>by
  unfold E8;rw[T3];cases e:(cellsFrom (C+1) scope.names []).lookup x with
  |some c' =>
   have:=S.cells _ (Fj (aO e)) rfl
   simp_all
  |none=>rfl
 refine#[#[I.mod,Rf,I.ok.glob,I.ok.blt,hC,?_,?_,?_,λ_=>I.ok.hd hc,I.ok.frames,.inl rfl,?_,I.bs,?_,?_,?_,I.stack,I.zD],rfl,I.bare,Un.kept k,#[m,hm,?_],?_,?_,?_,?_,I.bJ.kept k,?_,λcW z=>absurd (show(none:Option (List (Option V)))=some cW from z) #[_]]
 ·intro x y c h1 h2;rcases two h1 with⟨l1,_,q1⟩|⟨q1,_⟩<;>rcases two h2 with⟨l2,_,q2⟩|⟨q2,_⟩
  ·exact PySem.name_of_addr ck.apart q1 q2
  ·exact absurd (cR l1 (ay (vB q2) hC)) (bL _)
  ·exact absurd (cR l2 (ay (vB q1) hC)) (bL _)
  ·exact I.ok.inj x y c (S.cin x c q1) (S.cin y c q2)
 ·intro x hx;rcases T9 (env:=X.env) (names:=scope.names) hx with z|z
  ·let#[c,hc]:=S.xb x z;exact#[c,(frees z).trans hc]
  ·have q:=dH scope.names (C+1) [] (.inl z);let#[c,hc]:=eP.mp q;refine#[c,?_];show(E8 scope cl C).lookup x=some c;unfold E8;rw[T3,hc]
   rfl
 ·intro x c hf h;have z:scope.names.lookup x=some .cell:=aM hf;have q:=dH scope.names (C+1) [] (.inl z);rcases two h with⟨l,_⟩|⟨_,e⟩
  ·exact dk (gw hC l)
  simp_all
 ·intro b hb;let#[f0,f1,f2,f3,f4,f5]:=hf b hb;let#[o,e]:=ho b hb;refine#[HC b o e,λx c h=>?_];rcases two h with⟨l,_⟩|⟨q,_⟩
  ·intro z;subst z;exact absurd (cR l (ay (aC e) hC)) (bL _)
  ·exact f4 x c (S.cin x c q)
 ·exact aD I.ok.nu I.sz
 ·intro b o e hb;let#[f0,f1,f2,f3,f4,f5]:=hf b hb;rcases f3 with f3|f3
  ·exact I.ok.kd b o e f3
  ·exact absurd (aC (I.ok.bs b o e).1) (Pd.mpr f3)
 ·intro b hb z;let#[f0,f1,f2,f3,f4,f5]:=hf b hb;rcases aF.mp (I.tG b z) with z|z
  ·exact f1 z
  ·exact f2 z
 ·intro i x v Ds h2 h3;have hi:i<d6.length:=by
   unfold C9 at h2;by_cases hi:i<d6.length
   ·exact hi
   ·rw[cV (by simpa using hi),dD] at h2
    simp_all
  obtain⟨j,hj⟩:∃j,d6[i]?=some j:=#[_,au hi]
  have hs:Z[j]?=some (some v):=by
   unfold C9 at h2;rw[aK (by simpa using hi),ah,hj] at h2;simp only[Option.map_some] at h2;cases e:Z[j]? with
   |none=>rw[e] at h2;cases h2
   |some a=>rw[e] at h2;exact cT some (aG h2)
  let#[y,QE,BE,vO,QD]:=S.SV i j hj;have ey:y=x:=by
   have wK:N'[i]?=some x:=Ds;rw[QE] at wK;exact aG wK
  subst ey;let#[m0,hm0,hl]:=I.loc;let ⟨u,ru,hu⟩:=hl j y v BE hs (by
   rcases QD with z|z
   ·exact .inr (.inl z)
   ·exact .inr (.inr z))
  refine#[u,ru,.inr #[M0 (env:=X.env) (names:=scope.names) vO,?_]];rcases hu with⟨z,_⟩|⟨_,c,yU,pB⟩
  ·simp_all
  ·let#[c',mn]:=S.xb y vO;have e:=S.cin y c' mn;rw[yU] at e;cases e;let#[o,e1,e2]:=pB;exact#[c,(frees vO).trans mn,o,k _ _ e1,e2]
 ·intro x c h;rcases two h with⟨_,q,_⟩|⟨q,_⟩
  ·exact#[none,q]
  ·let#[v,o,e1,e2]:=I.cell x c (S.cin x c q);exact#[v,o,k _ _ e1,e2]
 ·exact I.bJ.fresh hC
 ·intro x c h;rcases two h with⟨l,_⟩|⟨q,_⟩
  ·exact I.bJ.fresh (dk (gw hC l))
  ·exact I.eK x c (S.cin x c q)
 ·intro p hp;have iu:p∈X.pn++pi:=by simpa[f6] using hp
  let#[p1,p2,p3,p4,p5]:=I.pin p iu;refine#[k _ _ p1,p2,HC _ _ p1,λz=>?_,p5];rcases aF.mp (I.tG _ z) with z|z
  ·exact p3 z
  ·exact p4 z
 ·unfold C9;change _=N'.length;rw[dI,ai,yt];have:=S.DK;omega
def Inv.UI{fo:List (Addr×Obj)}{bV:St}{H':Hp}{s':Shared}(I:Inv X pi Z H s)(hf:∀b∈fp,K8 X pi H b)(J:Inv (f6 X pi scope N' cl C s H fp) fo bV H' s'):Inv X pi Z H' s' :=
 I.Gw (ch:=fp) J.os J.base J.bJ J.bare λb hb=>by
  let#[f0,f1,f2,f3,f4,f5]:=hf b hb;exact#[f3,f1,f4,f5]
def Inv.Yq{D}{ys}{aU}{n}(I:Inv X pi Z H s)(f:K8 X pi H D)(hs:X.dt.heap.objs.size<=D)(hv:Vals ys aU)(hz:ys.length<=sizeLine)(ho:s.heap.get? D=some { cls:=.type "list",data:=.seq aU.toArray n }):Inv X pi Z (upd H D (.lst ys)) s:=by
 let#[f0,f1,f2,f3,f4,f5]:=f;have fM:∀b o,X.dt.heap.get? b=some o->b≠D:=λb o e z=>absurd (aC e) (by rw[z];exact Pd.mpr hs);have tup:∀b u,H b=some u->upd H D (.lst ys) b=some u:=λb u e=>by rw[d0 (i7 e f0)];exact e
 refine#[I.ok,I.os,I.bare,#[?_,?_,?_,I.base.there,?_,?_,?_],I.loc,I.cell,?_,?_,?_,?_,I.len,I.sg]
 ·exact λb o e n1 n2 n3=>I.base.keep b o e n1 n2 n3
 ·exact λb o e n1 n2 n3=>I.base.slot b o e n1 n2 n3
 ·exact λb o e n1 n2=>by rw[d0 (fM b o e)];exact I.base.free b o e n1 n2
 ·exact λb xs e=>tup _ _ (I.base.iC b xs e)
 ·exact λb o u e=>tup _ _ (I.base.ic b o u e)
 ·exact λb ps e=>by
   let#[more,q]:=I.base.iD b ps e;exact#[more,tup _ _ q]
 ·rw[d0 f1.symm];exact I.free
 ·exact λx c e=>by rw[d0 (f4 x c e)];exact I.eK x c e
 ·intro p hp;let#[p1,p2,p3]:=I.pin p hp;exact#[p1,by rw[d0 (f5 p hp)];exact p2,p3]
 ·intro a o e;by_cases ha:a=D
  ·subst ha;rw[k6] at e;cases e;exact#[hz,aU,n,hv,ho]
  ·rw[d0 ha] at e;have q:=I.bJ a o e;refine q.J7 (λb u _ h=>h) (λb hb=>tup _ _ hb) (λb xs hb=>tup _ _ hb)
end
abbrev Fq(wi:TI)(d6:List Nat)(n:Nat)(g:TG)(tc:TT)(te:TE):TE:=λZ H Q=>wi Z H λJ H1=>∃W:Nat->Nat->List V->St->Hp->Prop,(∃m,W 0 m [] (C9 Z d6 n) H1)/\∀i m ys Z H,W i m ys Z H ->
 (J.stop i H/\∀p,H p=none->Q (.ref p) (upd H p (.lst ys))) \/
 (J.go i H/\ys.length < sizeLine/\∀ x H',J.nJ i H x H'->g x Z H' λcz H2=>tc cz H2 λb H3 =>
  if b=true then te cz H3 λy H4=>∃ m',m' < m/\W (i + 1) m' (ys ++ [y]) cz H4 else ∃ m',m' < m/\W (i + 1) m' ys cz H3)
noncomputable abbrev b75(aU:List Value)(n:Nat):Obj:={ cls:=.type "list",data:=.seq aU.toArray n }
section
variable{pi:List (Addr×Obj)}{Z:St}{H:Hp}
structure AF(X:Cx)(n0:Nat){α:Type}(K:Addr->α->Heap->Obj->Prop)(fin:Addr->α->HO):Prop where
 nc:∀{a y h o},K a y h o->∀v,o.data≠.cell v
 get:∀{a y h o},K a y h o->h.get? a=some o
 J7:∀{a y h h' o},K a y h o->h'.get? a=some o->K a y h' o
 done:∀{pi Z H s a y o},n0<=a->Inv X pi Z H s->K8 X pi H a->X.dt.heap.objs.size<=a->K a y s.heap o->Inv X pi Z (upd H a (fin a y)) s
def Ez{α:Type}{K:Addr->α->Heap->Obj->Prop}{fin:Addr->α->HO}{y0:α}{o0:Obj}{Bd:α->Prop}{tb:α->St->Hp->(α->Hp->Prop)->Prop}{body:(Shared->Prop)->Shared->Prop}{LP:Shared->Prop}{it:Addr}{tn:Nat->Heap->Prop}{J:It}{R:Result->Shared->Prop}{W:Nat->Nat->α->St->Hp->Prop}{m0:Nat}{Q:VK}{cM:Heap}{env:Env}(G:AF X s⁻¹ K fin)(S:cC X scope N' d6 cl)(hc:X.calm=true)(hg:PG (f6 X pi scope N' cl C s H fp) tg g)(ht:jy (f6 X pi scope N' cl C s H fp) ifs tc)(I:Inv X pi Z H s)(T:Turn X.prog X.w X.K tg J fp it tn)(st:tn 0 s.heap)(hf:∀b∈fp,K8 X pi H b)(w0:W 0 m0 y0 (C9 Z d6 N'.length) H)(turn:∀ i m y Z H,W i m y Z H->(J.stop i H/\∀ p,H p=none->Q (.ref p) (upd H p (fin p y))) \/
   (J.go i H/\Bd y/\∀ x H',J.nJ i H x H'->g x Z H' λcz H2=>tc cz H2 λb H3 =>
    if b=true then tb y cz H3 λy' H4=>∃ m',m' < m/\W (i + 1) m' y' cz H4 else ∃ m',m' < m/\W (i + 1) m' y cz H3))(su:∀s' H' m,Inv X pi Z H' s'->Q (.ref s⁻¹) H'->s'.heap.Ns C m->H' C=none->s⁻¹<=C->R (.ok .next) s')(yP:∃m,cM.Ns C m)(tX:∀b o,(s.heap.push o0).get? b=some o->cM.get? b=some o)(mj:CellsOk cM (C+1) (cellsFrom (C+1) scope.names []))(eC:s⁻¹+1=C)(k0:K s⁻¹ y0 cM o0)(ev:(f6 X pi scope N' cl C s H fp).env=env)(Co:∀ y o fo bV H' s' (P:α->Hp->Prop) (R':Shared->Prop),Bd y->K s⁻¹ y s'.heap o->(∀ {yu H8 s8},Inv (f6 X pi scope N' cl C s H fp) fo yu H8 s8->s8.heap.get? s⁻¹=some o)->Inv (f6 X pi scope N' cl C s H fp) fo bV H' s'->tb y bV H' P ->
   (∀ s8 H8 y' h' t' o',Inv (f6 X pi scope N' cl C s H fp) fo bV H8 s8->P y' H8->(∀ b u,b ≠ s⁻¹->s8.heap.get? b=some u->h'.get? b=some u)->K s⁻¹ y' h' o'->R' { s8 with heap:=h',toks:=t' })->body R' s')(lp:∀ (I:Nat->Shared->Prop),(∀ n s,I n s->wpAny (model X.prog X.w) X.A (pyNext (.ref it)) (λr bz=>match r with
   |none=>R (.ok .next) bz
   | some v=>wpAny (model X.prog X.w) X.A (letOwnedTupleGo tg (.ref it) v) (λ_ bz=>wpAny (model X.prog X.w) X.A (assign tg env v) (λ_ eT =>
     wpAny (model X.prog X.w) X.A (forIn ifs true λc r=>if r=true then do let ok <- isTrue c env (eval c env);pure (ForInStep.yield ok) else pure (ForInStep.yield r)) (λok dQ =>
      if ok=true then body (λgx=>∃ m,m < n/\I m gx) dQ else ∃ m,m < n/\I m dQ) (λ_ _=>False) eT) (λ_ _=>False) bz) (λ_ _=>False) bz) (λ_ _=>False) s)->∀ n,I n { s with heap:=cM }->LP { s with heap:=cM }) :
  tn 0 cM/\LP { s with heap:=cM }:=by
 subst ev;generalize Cw:s.heap.push o0=H2 at tX;generalize eD:s⁻¹=D at *;have Iz:D≠C:=by omega
 have lt:∀b o,s.heap.get? b=some o->b<D:=λb o e=>by rw[<- eD];exact aC e
 have yG:D<=C:=by omega
 have tT:∀b o,s.heap.get? b=some o->b≠C:=λb o e=>aN (ay (lt b o e) yG);have vG:∀b o,s.heap.get? b=some o->b≠D:=λb o e=>aN (lt b o e);have old:∀b o,s.heap.get? b=some o->cM.get? b=some o:=λb o e=>tX b o (Cw▸aj _ e);have kO:∀b∈fp,∃o,s.heap.get? b=some o:=λb hb=>by
  let#[o,e,_]:=T.obj _ _ st b hb;exact#[o,e]
 have Iy:D∉fp:=λhm=>by
  let#[o,e]:=kO D hm;exact vG D o e rfl
 have X1:Inv (f6 X pi scope N' cl C s H fp) [] (C9 Z d6 N'.length) H { s with heap:=cM } :=
  I.a39 S hc hf kO (by rw[eD];omega) yP old mj
 have Hq:tn 0 cM:=T.keep _ _ _ st λb _ o e=>old b o e;have Ss:∀{H':Hp},(∀b∈fp,H' b=none)->∀b∈fp,K8 (f6 X pi scope N' cl C s H fp) [] H' b:=λhn b hb=>by
  let#[f0,f1,f2,f3,f4,f5]:=hf b hb;let#[o,e]:=kO b hb;refine#[hn b hb,?_,?_,.inl hb,λx c q=>(Ni mj q).elim (λl z=>absurd (cR (z▸l) (ay (lt b o e) yG)) (bL _)) λq=>f4 x c (S.cin x c q),λp hp=>?_]
  ·exact tT b o e
  ·exact λz=>by
    rcases aF.mp (I.tG b z) with z|z
    ·exact f1 z
    ·exact f2 z
  ·have iu:p∈X.pn++pi:=by simpa[f6] using hp
   exact f5 p iu
 have fD:∀{H':Hp},H' D=none->K8 (f6 X pi scope N' cl C s H fp) [] H' D:=λhn=>by
  refine#[hn,Iz,λz=>?_,.inr (by change s⁻¹<=D;omega),λx c q=>?_,λp hp=>?_]
  ·exact absurd (I.Ec (a:=D) ()) λnW=>by
    rcases aF.mp (I.tG D z) with z|z
    ·exact absurd I.lt (by rw[<- z,eD];exact bL _)
    ·exact nW z
  ·rcases Ni mj q with l|q
   ·exact λz=>absurd (ay (z▸l) yG) (bL _)
   ·let#[v,o,e,_]:=I.cell x c (S.cin x c q);exact vG c o e
  ·have iu:p∈X.pn++pi:=by simpa[f6] using hp
   exact vG _ _ (I.pin p iu).1
 refine#[Hq,lp (λn s'=>∃(i:Nat) (y:α) (bV:St) (H':Hp) (o:Obj),Inv (f6 X pi scope N' cl C s H fp) [] bV H' s'/\tn i s'.heap/\(∀b∈fp,H' b=none)/\H' D=none/\K D y s'.heap o/\W i n y bV H') ?_ m0 #[0,y0,_,H,o0,X1,Hq,λb hb=>(hf b hb).1,I.bJ.fresh (),k0,w0]];rintro n s3 ⟨i,y,iM,H3,o,I3,vk,wN,d3,k3,w3⟩;have OV:Inv (f6 X pi scope N' cl C s H fp) [(D,o)] iM H3 s3:=I3.xK λp hp=>by
  have z:p=(D,o):=by simpa using hp
  subst z;let#[f0,f1,f2,_]:=fD d3;exact#[G.get k3,f0,f1,f2,G.nc k3]
 have lR:∀{H':Hp},(∀b∈fp,H' b=none)->∀b∈fp,K8 (f6 X pi scope N' cl C s H fp) [(D,o)] H' b:=λ{H'} hn b hb=>by
  let#[f0,f1,f2,f3,f4,f5]:=Ss hn b hb;refine#[f0,f1,f2,f3,f4,λp hp=>?_];have iu:p∈(f6 X pi scope N' cl C s H fp).pn\/p=(D,o):=by simpa using hp
  rcases iu with z|z
  ·exact f5 p (eh _ z)
  ·subst z;exact λz=>Iy (by rw[show D=b from z];exact hb)
 rcases turn i n y iM H3 w3 with⟨stop,q⟩|⟨go,hz,step⟩
 ·refine cE (T.done (f6 X pi scope N' cl C s H fp) rfl rfl rfl rfl i _ s3 _ H3 _ OV (lR wN) vk stop) ?_;rintro r s4 ⟨hr,I4⟩;subst hr;have J4:Inv X pi Z H3 s4:=I.UI hf I4;have Dy:K8 X pi H3 D:=by
   refine#[d3,bI (by rw[<- eD];exact I.lt),I.Ec (),.inr (by have:=I.sz;omega),λx c q=>?_,λp hp=>?_]
   ·let#[v,o,e,_]:=I.cell x c q;exact vG c o e
   ·exact vG _ _ (I.pin p hp).1
  let#[mC,QY,_]:=I4.loc;exact su s4 _ mC (G.done (av _) J4 Dy (by have:=I.sz;omega) (G.J7 k3 (I4.pin (D,o) #[_]).1)) (q D d3) QY (by rw[d0 Iz.symm];exact I4.free) yG
 ·refine cE (T.item (f6 X pi scope N' cl C s H fp) rfl rfl rfl rfl i _ s3 _ H3 _ OV (lR wN) vk go) ?_;rintro r s4 ⟨u,hr,h4⟩;subst hr;refine cE h4 λ_ s5 bp=>?_;let#[x,H5,I5,r5,y5,rE,Dx]:=bp;have GS:=I5.pinned (lR Dx) (T.obj _ _ rE);refine cE (hg _ s5 _ H5 x u _ GS r5 (step x H5 y5)) λ_ s6 bp=>?_;let#[rn,H6,I6,q6]:=bp;refine cE (ht _ s6 rn H6 _ I6 q6) ?_;rintro ok s7 ⟨H7,I7,q7⟩;have back:∀{yu:St} {H8:Hp} {s8:Shared},Inv (f6 X pi scope N' cl C s H fp) ([(D,o)]++xD fp s5.heap) yu H8 s8->(∀b∈fp,H8 b=none)/\tn (i+1) s8.heap/\H8 D=none/\s8.heap.get? D=some o :=
   λ{yu H8 s8} I8=>by
    have pf:∀b∈fp,∀o,s5.heap.get? b=some o->s8.heap.get? b=some o/\H8 b=none:=λb hb o e=>by
     have:=I8.pin (b,o) (bQ _ (bQ _ (EW hb e)));exact#[this.1,this.2.1]
    have pd:=I8.pin (D,o) #[_];refine#[λb hb=>?_,T.keep _ _ _ rE λb hb o e=>(pf b hb o e).1,pd.2.1,pd.1];let#[o,e,_]:=T.obj _ _ rE b hb;exact(pf b hb o e).2
  cases ok with
  |false =>
   let#[m',hm,w7]:=q7;let#[b1,b2,b3,b4]:=back I7;exact#[m',hm,i+1,y,rn,H7,o,I7.xK λp hp=>absurd hp #[_],b2,b1,b3,G.J7 k3 b4,w7]
  |true =>
   refine Co y o _ rn H7 s7 _ _ hz (G.J7 k3 (back I7).2.2.2) (λI8=>(back I8).2.2.2) I7 q7 ?_;rintro s8 H8 y' h' t' o' I8 ⟨m',hm,w8⟩ kp k8;let#[b1,b2,b3,b4]:=back I8;have I8':Inv (f6 X pi scope N' cl C s H fp) [] rn H8 s8:=I8.xK λp hp=>absurd hp #[_];let#[f0,f1,f2,f3,f4,f5]:=fD (H':=H8) b3;exact#[m',hm,i+1,y',rn,H8,o',I8'.turned (it:=D) (t':=t') (λb o hb e=>kp b o hb e) f0 f1 f3 f4 f5,T.keep _ _ _ b2 λb hb o e=>kp b o (λz=>Iy (by rw[<- z];exact hb)) e,b1,b3,k8,w8]
abbrev KL(a:Addr)(ys:List V)(h:Heap)(o:Obj):Prop:=∃aU n,Vals ys aU/\ys.length<=sizeLine/\o=b75 aU n/\h.get? a=some o
def UP{n0}:AF X n0 KL λ_ ys=>.lst ys where
 nc:=λ⟨_,_,_,_,e,_⟩ v z=>by subst e;cases z
 get:=λ⟨_,_,_,_,_,e⟩=>e
 J7:=λ⟨aU,n,h1,h2,h3,_⟩ e=>#[aU,n,h1,h2,h3,e]
 done:=λ_ I f hs ⟨aU,n,h1,h2,h3,e⟩=>I.Yq f hs h1 h2 (h3▸e)
def KR{it:Addr}{tn:Nat->Heap->Prop}{J:It}{xx:Addr->Shared->Hp->Value->Shared->Prop}{RR:Value->Addr->Result->Shared->Prop}{E:Value->Shared->Prop}{W:Nat->Nat->List V->St->Hp->Prop}{m0:Nat}{Q:VK}(S:cC X scope N' d6 cl)(hc:X.calm=true)(hg:∀C s H,PG (f6 X pi scope N' cl C s H fp) tg g)(ht:∀C s H,jy (f6 X pi scope N' cl C s H fp) ifs tc)(he:∀C s H,PE ((f6 X pi scope N' cl C s H fp).pV (xx C s H)) elt te)(I:Inv X pi Z H s)(T:Turn X.prog X.w X.K tg J fp it tn)(st:tn 0 s.heap)(hf:∀b∈fp,K8 X pi H b)(w0:W 0 m0 [] (C9 Z d6 N'.length) H)(turn:∀ i m ys Z H,W i m ys Z H->(J.stop i H/\∀ p,H p=none->Q (.ref p) (upd H p (.lst ys))) \/
   (J.go i H/\ys.length < sizeLine/\∀ x H',J.nJ i H x H'->g x Z H' λcz H2=>tc cz H2 λb H3 =>
    if b=true then te cz H3 λy H4=>∃ m',m' < m/\W (i + 1) m' (ys ++ [y]) cz H4 else ∃ m',m' < m/\W (i + 1) m' ys cz H3))(su:∀D C s' H' m,Inv X pi Z H' s'->Q (.ref D) H'->s'.heap.Ns C m->H' C=none->s⁻¹<=C->RR (.ref D) C (.ok .next) s')(RJ:∀D C e s',s⁻¹<=C->xx C s H e s'->notedBy (model X.prog X.w) X.A (compEnvC scope (E8 scope cl C) C X.env) (λe s'=>RR (.ref D) C (.error e) s') e s') :
  wpAny (model X.prog X.w) X.A (newList []) (λacc dQ=>wpAny (model X.prog X.w) X.A (newFunctionEnv scope X.env.globals cl [] X.env.qual none .none (some X.env)) (λjN fG =>
   jN.frame=X.env.frame/\codeAny (model X.prog X.w) X.A (.compStart (.ListComp elt [#[tg,iter,ifs,0]] scope pos) 0 (.ref it) acc { jN with scope:=relabel scope X.env }) (RR acc jN.locals) fG) E dQ) E s:=by
 refine bW (X9 λcM gk eU mj=>?_);dsimp only at gk eU mj ⊢;have eC:(s.heap.push { cls:=.type "list",dict:=none,data:=.seq ([]:List Value).toArray }).objs.size=s⁻¹+1:=dM ..
 replace eC:=eC.symm
 generalize (s.heap.push { cls:=.type "list",dict:=none,data:=.seq ([]:List Value).toArray }).objs.size=C at *;refine (λL=>#[rfl,codeAny_compStart_list L.2 (T.self _ 0 _ _ _ L.1 L.2)]) (Ez (R:=RR (.ref s⁻¹) C) (LP:=codeAny (model X.prog X.w) X.A (.compLoop (.ListComp elt [#[tg,iter,ifs,0]] scope pos) 0 (.ref it) (.ref s⁻¹) (compEnvC scope (E8 scope cl C) C X.env)) (RR (.ref s⁻¹) C)) (tb:=λys Z H P=>te Z H λy H'=>P (ys ++ [y]) H') (env:=compEnvC scope (E8 scope cl C) C X.env)
  (body:=λP dQ=>wpAny (model X.prog X.w) X.A (eval elt (compEnvC scope (E8 scope cl C) C X.env)) (λx fG=>wpAny (model X.prog X.w) X.A (call (.builtin "list.append") [.ref s⁻¹,x]) (λ_ gx=>P gx) (λ_ _=>False) fG) (notedBy (model X.prog X.w) X.A (compEnvC scope (E8 scope cl C) C X.env) λe s'=>RR (.ref s⁻¹) C (.error e) s') dQ)
  UP S hc (hg C s H) (ht C s H) I T st hf w0 turn (λs' H' m=>su _ C s' H' m) #[_,gk] eU mj eC #[[],0,.nil,bO _,rfl,eU _ _ (aB _ rfl)] rfl (λys o fo bV H' s' P R' hz k hb I' q hR=>?_) (λI turn n h=>aQ1 I turn n h))
 ·refine aY (he C s H _ s' bV H' _ (I'.pV _) q) (λxv s8 bp=>?_) λe s' hx=>RJ _ C e s' () hx;let#[y,H8,I8,r8,q8]:=bp;have I8:=I8.FT;let#[aU,nn,v3,z3,rfl,_]:=k;have b4:=hb I8;refine dG F.slot_list_append #[_,b4,rfl] F.entry_list_append (F.args_list_append_2 _ _) (PySem.list_append _ aU.toArray nn xv (by rw[aQ];have:=v3.length;omega)) #[b4,?_];have q0:=PySem.IsL.update b4 (·.push xv);rw[show aU.toArray.push xv=(aU++[xv]).toArray by simp] at q0;exact hR s8 H8 _ _ s8.toks _ I8 q8 (λb' u hb hu=>(cw s8.heap (Obj.mapSeq (·.push xv)) (aZ hb)).trans hu) #[_,_,v3.append (.cons r8 .nil),by rw[dI,yq];omega,rfl,q0]
def Inv.GC{h':Heap}{s2:Shared}{H2:Hp}(I:Inv X pi Z H s)(hC:s2⁻¹<=C)(I2:Inv X pi Z H2 s2)(hn:H C=none)(sb:Heap.SameBut C s.heap h'):Inv X pi Z H { s with heap:=h' }:=by
 have f:=I2.oz (b:=C) (H':=H) hC hn;let#[f0,f1,f2,f3,f4,f5]:=f;exact I.turned (t':=s.toks) (λb o hb e=>sb.extBut b o hb e) f0 f1 f3 f4 f5
def KW{M}{E:Value->Shared->Prop}{a}{b}{P:Env->Prop}{Q:Value->Env->Shared->Prop}(h:wpAny M A a (λx s1=>wpAny M A b (λy s2=>P y/\Q x y s2) E s1) E s):wpAny M A a (λx s1=>wpAny M A b (λy s2=>Q x y s2) E s1) E s :=
 aY h (λ_ _ h=>aY h (λ_ _ h=>h.2) λ_ _ z=>z) λ_ _ z=>z
def MB{wi}(S:cC X scope N' d6 cl)(hc:X.calm=true)(hi:PI X tg iter wi)(hg:∀pi C s H fp,PG (f6 X pi scope N' cl C s H fp) tg g)(ht:∀pi C s H fp,jy (f6 X pi scope N' cl C s H fp) ifs tc)(he:∀pi C s H fp,PE (f6 X pi scope N' cl C s H fp) elt te)(hs:∀x,foldedSetIterable iter X.env x=pure x):PE X (.ListComp elt [#[tg,iter,ifs,0]] scope pos) (Fq wi d6 N'.length g tc te):=by
 intro pi s Z H Q I h;refine dF (use:=none) rfl hs S.nt S.kind S.names (cE (hi pi s Z H _ I h) λxv bz cM=>cE cM λrT eT gj=>?_);let#[it,fp,tn,J,H2,e,I2,T,jj,f2,W,#[m0,w0],turn]:=gj;subst e;refine KW (KR (xx:=λ_ _ _ _ _=>False) (RR:=λacc C=>compPost (model X.prog X.w) X.A X.xe none (EP X pi Z Q) acc C) S hc (λC s H=>hg pi C s H fp) (λC s H=>ht pi C s H fp) (λC s H=>he pi C s H fp) I2 T jj f2 w0 turn ?_ λ_ _ _ _ _ z=>z.elim);intro D C s' H' m I' q hn hC hsz;exact#[m,hn,λh' sb=>#[.ref D,H',I'.GC hsz I2 hC sb,rfl,q]]
def aS0{kJ px}{wi}{i}(S:cC X scope N' d6 cl)(hc:X.calm=true)(hi:PI X tg iter wi)(hg:∀pi C s H fp,PG (f6 X pi scope N' cl C s H fp) tg g)(ht:∀pi C s H fp,jy (f6 X pi scope N' cl C s H fp) ifs tc)(he:∀pi C s H fp,PE (f6 X pi scope N' cl C s H fp) elt te)(hs:∀x,foldedSetIterable iter X.env x=pure x)(hN:X.Nd)(nX:X.N[i]?=some x)(hx:Loc X.env.scope x)(hf:X.fn x=true\/X.env.scope.names.lookup x=some .local) :
  PS X (.Assign [.Name x px] (.ListComp elt [#[tg,iter,ifs,0]] scope pos) kJ) (uU (Fq wi d6 N'.length g tc te) (qR i)):=by
 intro pi s Z H D I h;have ph:∃b,swapsWith (.ListComp elt [#[tg,iter,ifs,0]] scope pos) (some (.Name x px)) kJ.line X.env=pure b:=#[_,rfl]
 let#[b,ph]:=ph;cases b with
 |false=>exact FL hN nX hx (MB S hc hi hg ht he hs) ph hf pi s Z H D I h
 |true =>
  rw[exec_Assign_Name_used _ _ _ _ ph];refine ae (cZ (ae ?_));refine ae (aY (dF (use:=some (assign (.Name x px) X.env)) (Q:=λ_ s'=>SP X pi D .next s') rfl hs S.nt S.kind S.names
   (cE (hi pi s Z H _ I h) λxv bz cM=>cE cM λrT eT gj=>?_)) (λ_ s' hq=>ak (ak hq)) λ_ _ e=>e)
  let#[it,fp,tn,J,H2,e,I2,T,jj,f2,W,#[m0,w0],turn]:=gj;subst e;refine KW (KR (xx:=λ_ _ _ _ _=>False) (Q:=λv H1=>qR i v Z H1 D.nx) (RR:=λacc C=>compPost (model X.prog X.w) X.A X.xe (some (assign (.Name x px) X.env)) (λ_ s'=>SP X pi D .next s') acc C) S hc (λC s H=>hg pi C s H fp) (λC s H=>ht pi C s H fp) (λC s H=>he pi C s H fp) I2 T jj f2 w0 turn ?_ λ_ _ _ _ _ z=>z.elim);intro Dl C s' H' m I' q hn hC hsz;refine oK (EM I' hN nX hx (v:=.ref Dl) rfl (?_) hf);rintro s3 I3 ⟨a,sb,ha⟩;have Cz:C≠a:=by
   let#[f0,f1,f2,f3,f4,f5]:=I2.oz (b:=C) (H':=H') hsz hC;rcases ha with z|z
   ·rw[z];exact f1
   ·exact λz'=>f4 _ _ z z'.symm
  let#[f0,f1,f2,f3,f4,f5]:=I2.oz (b:=C) (H':=H') hsz hC;refine#[m,hn.sameBut sb Cz,λh3 Bh=>#[_,H',I3.turned (t':=s3.toks) (λb o hb e=>Bh.extBut b o hb e) f0 f1 f3 f4 f5,q]]
end
end L2
namespace HT
open PySem PyProof.Rows
section
variable{prog:Program}{w:World}{A:Around}{E:Value->Shared->Prop}{s:Shared}
def UA{t b:Addr}{ws:List Value}{Q:Value->Shared->Prop}(ht:IsTup s.heap t (List.toArray []))(hb:IsTup s.heap b ws.toArray)(h1:Q (.ref b) s):wpAny (model prog w) A (binaryOp .Add (.ref t) (.ref b)) Q E s:=by
 let#[#[cls,dd,data,sl],ho,hc,n,hd]:=id ht;let#[#[xa,qK,data2,kZ],kQ,pB,n2,hd2]:=id hb;simp only at hc hd pB hd2;subst hc hd pB hd2;exact concat_meets #[_,ho,rfl] #[_,kQ,rfl] jf lV iw ia (gP _ _)
   (tuple_addW0 t b (List.toArray []) ws.toArray n n2 dd qK sl kZ rfl) #[ho,kQ,h1]
def am0{t sl}{items}{vl vu}{lo hi}{Q}(ht:IsTup s.heap t items)(hs:s.heap.IsSliceOf sl vl vu .none)(pl:IsPart vl lo)(pu:IsPart vu hi)(hw:dY items.size 0 lo=0/\dY items.size items.size hi=items.size)(h:Q (.ref t) s):wpAny (model prog w) A (getItem (.ref t) (.ref sl)) Q E s:=by
 let#[os,se,nY,wk]:=id hs;have Cp:s.TypeIs (.ref sl) "slice":=#[os,se,nY]
 unfold getItem
 try with_reducible refine bB ?_
 refine ae (wpAny_sequenceKey ht.typeIs ∅ ?_);refine ae (fB (name:=Str.ofString "__getitem__") ht.typeIs bU
  (bS bU ht.typeIs entry_tuple_getitem ?_ (args_tuple_getitem _ _)))
 change wpAny _ _ (Builtin.Tuple.tupleItemsOf (.ref t) >>= _) _ _ s;refine ae (tupleItemsOf_ ht ?_);refine ae (dB Cp ?_);refine ae (L' hs pl pu ?_);have BD:((((dY items.size 0 lo:Nat):Int)==0&&(1:Int)==1&&(dY items.size items.size hi-dY items.size 0 lo)==items.size)=true):=by
  simp_all
 change wpAny _ _ (if(((dY items.size 0 lo:Nat):Int)==0&&(1:Int)==1&&(dY items.size items.size hi-dY items.size 0 lo)==items.size)=true then _ else _) _ _ s;rw[aH BD];refine ae (ae (dB ht.typeIs (ak ?_)))
 first
  |exact wpAny_bind (wpAny_rule (wpAny_bind (wpAny_pure #[_,rfl,wpAny_pure h])))
  |exact wpAny_bind (wpAny_rule (wpAny_pure #[_,rfl,wpAny_pure h]))
  |exact wpAny_bind (wpAny_rule (wpAny_bind (wpAny_pure (wpAny_pure #[_,rfl,wpAny_pure h]))))
end
end HT
namespace L2
open PySem PySem.Spec PyProof.Rows
section
variable{X:Cx}
abbrev ZV(K:PySem.W.Frag):R2:=λx y H Q=>∃a b xs ys,x=.ref a/\y=.ref b/\ig K H a xs/\ig K H b ys/\xs.length+ys.length<=sizeLine /\
 (xs=[]->Q (.ref b) H)/\(ys=[]->Q (.ref a) H)/\(∀p,H p=none->Q (.ref p) (upd H p (.tup (xs++ys))))
def Vn:fP X (binaryOp .Add) (ZV X.K):=by
 intro pi s Z H x y v u Q I rx ry h;let#[a,b,xs,ys,rfl,rfl,ha,hb,hz,q0,q1,q2]:=h;by_cases hx:xs=[]
 ·subst hx;cases rx;cases ry;let#[aU,r1,p1,_]:=I.tuple ha;let#[mQ,r2,p2,_]:=I.tuple hb;cases r1;exact HT.UA p1 p2 #[.ref b,H,I,rfl,q0 rfl]
 ·exact bB4 pi s Z H _ _ v u Q I rx ry #[a,b,xs,ys,rfl,rfl,ha,hb,hx,hz,q1,λ_=>q2]
abbrev XX(K:PySem.W.Frag):V->Option Int->Option Int->Hp->VK->Prop:=λx lo hi H Q=>∃a xs,x=.ref a/\ig K H a xs /\
 (ny xs lo hi=xs->Q (.ref a) H)/\∀p,H p=none->Q (.ref p) (upd H p (.tup (ny xs lo hi)))
def Ua:ya X (XX X.K):=by
 intro pi s Z H x v vl vu lo hi sl Q I rx hs pl pu h;let#[a,xs,rfl,hx,q0,q]:=h;by_cases hw:HT.dY xs.length 0 lo=0/\HT.dY xs.length xs.length hi=xs.length
 ·cases rx;let#[aU,r,ht,hz]:=I.tuple hx;have hlen:aU.toArray.size=xs.length:=by exact r.length.symm
  refine#["tuple",_,bU.lookup,ht.typeIs,?_];exact HT.am0 ht hs pl pu (by rw[hlen];exact hw) #[.ref a,H,I,rfl,q0 (by unfold ny;simp_all)]
 ·exact bI4 pi s Z H _ v vl vu lo hi sl Q I rx hs pl pu #[a,xs,rfl,hx,hw,q]
def aT2:p9 X (.builtin "isinstance") (λxs H Q=>∃x t c b,xs=[x,.ty c]/\gX X.K H x t/\PySem.W.kitOne X.K t (.type c)=some b/\Q (.bl b) H):=by
 intro pi s Z H xs us Q I r h;let#[x,t,c,b,rfl,hT,hk,q]:=h;let#[u,w',rfl,ru,fE]:=vals2 r;cases (show w'=Value.type c from fE);exact WT I ru hT hk λtk=>#[.bl b,H,I.tok tk,rfl,q]
def Wx(hc:X.calm=true):p9 X (.builtin "all") (λxs H Q=>∃(a:Addr) (bs:List Bool),xs=[.ref a]/\fq X.K H a (bs.map V.bl)/\Q (.bl (bs.all id)) H):=by
 intro pi s Z H xs us Q I r h;let#[a,bs,rfl,ha,q]:=h;let#[u,rfl,ru]:=vals1 r;cases ru;let#[aU,rv,p,hz]:=I.list ha;refine call_all_walk ?_;refine iJ p.isList ?_;have fM:a≠s⁻¹:=by
  let#[o,e,_]:=id p.isList;exact aN (aC e)
 have hl:=rv.length;rw[ai] at hl;refine#[s⁻¹,_,_,_,_,_,λi=>bs.getD i true,rfl,Walks.list (A:=X.A.in1) (I.ok.hd hc) _ a fM aU.toArray,#[#[_,aB _ rfl,rfl,rfl],?_],?_,λh' tk k=>?_]
 ·let#[o,e,q1]:=id p.isList;exact#[o,aj _ e,q1]
 ·intro i v s' Q' E' hP hQ;have hv:aU[i]?=some v:=by simpa using hP
  have hi:i<bs.length:=by rw[hl];exact(aw.mp hv).1
  let#[u',vQ,Bi]:=rv.get (i:=i) (x:=V.bl bs[i]) (by rw[ah,au hi];rfl);rw[hv] at vQ;cases vQ;cases (show v=Value.bool bs[i] from Bi);refine cG ?_;have:bs.getD i true=bs[i]:=by simp[List.getD,hi]
  dsimp only at hQ;rw[this] at hQ;exact hQ
 ·have e1:(List.range aU.toArray.size).all (λi=>bs.getD i true)=bs.all id:=by
   rw[aQ,<- hl];rw[bf];simp only[List.all_eq_true,List.mem_range,id];constructor
   ·intro hh x hx;let#[i,hi,rfl]:=dq.mp hx;have:=hh i hi;simpa[List.getD,hi] using this
   ·intro hh i hi;have:=hh bs[i] (cj hi);simpa[List.getD,hi] using this
  rw[e1];exact #[.bl (bs.all id),H,I.kept (t':=tk) λb o e=>k b o (by
   intro hb;have:b=s⁻¹:=by simpa using hb
   exact absurd (aC e) (by rw [this];exact bL _)) (aj _ e),rfl,q]
end
end L2
namespace HT
open PySem PyProof.Rows
end HT
namespace L2
open PySem PySem.Spec PyProof.Rows
variable{X:Cx}{pos p:Pos}{w:World}{H H':Hp}{Z:St}{s s':Shared}{B:Heap}{ea C:Addr}{a0:Value}{ta:TA}
def p6.get{P}{h}{a}:∀{o:HO},p6 P w H h a o->∃ob,h.get? a=some ob
 |.lst _,x=>by let#[_,_,_,_,e]:=x;exact#[_,e]
 |.tup _,x=>by let#[_,_,_,o,e,_]:=x;exact#[o,e]
 |.dK _,x=>by let#[_,_,_,_,o,es,ep,e,_]:=x;exact#[o,e]
 |.dT _,x=>by let#[_,_,_,_,o,es,ep,e,_]:=x;exact#[o,e]
 |.set _ _,x=>by let#[o,es,ep,t,e,_]:=x;exact#[o,e]
 |.ins _ _ _,x=>by let#[_,_,_,e,_]:=x;exact#[_,e]
 |.own _,x=>x
 |.xd _,x=>by let#[mA,n,_]:=x;let#[od,e,_]:=Of n;exact#[od,e]
 |.lZ _ _,x=>by let#[_,_,_,e]:=x;exact#[_,e]
 |.jJ _ _,x=>#[_,x.1]
 |.qg _,x=>#[_,x]
 |.met _ _,x=>#[_,x]
 |.ext _,x=>x.2.1
abbrev Gu(H':Hp)(h0:Heap)(l:List Env)(e:Value)(C:Addr)(h:Heap):Prop :=
 ∃(ea:Addr) (a0:Value) (B:Heap),e=.ref ea/\Heap.FlyingW B l ea (.ref C) a0 h/\∀b o,h.get? b=some o->b∉fS l->(H' b≠none\/∃o0,h0.get? b=some o0)->B.get? b=some o
abbrev gY(P:Program)(w:World):nH:=λouter H s E e s'=>∃(C:Addr) (H':Hp),s'.os=s.os/\AllBare s'.gens/\Un (fS outer) [] H H' s.heap s'.heap/\gc P w H' s'.heap/\Gu H' s.heap outer e C s'.heap/\E (.ref C) none H'
section
variable{pi:List (Addr×Obj)}{E:XK}{e:Value}
def Inv.flew(I:Inv X pi Z H s)(h:gY X.prog X.w X.stack H s E e s'):∃C H',Inv X pi Z H' s'/\Gu H' s.heap X.stack e C s'.heap/\E (.ref C) none H':=by
 let#[C,H',ho,hb,hu,bJ,fl,hE]:=h;exact#[C,H',I.Gw (ch:=[]) ho hu bJ hb #[_],fl,hE]
def zE(I:Inv X pi Z H s){b}(hb:b∈fS X.stack):∃o,s.heap.get? b=some o/\∀vs,o.data≠.fields vs:=(I.stack.mem hb).2
def Gz{og}(I:Inv X pi Z H s)(fA:X.stack=X.env::X.outer)(hex:X.ex=[])(hf:X.env.frame=some X.env.locals)(tU:∀b o,s.heap.get? b=some o->b∉fS X.stack->(H b≠none\/∃o0,X.dt.heap.get? b=some o0)->B.get? b=some o)(sl:∀b∈fS X.stack,∀o,s.heap.get? b=some o->∃sl,og.get? b=some { o with slots:=sl })(fw:Heap.FlyingW B X.outer ea (.ref C) a0 og)(hE:E (.ref C) none H):gY X.prog X.w X.outer X.ju X.dt E (.ref ea) { s with heap:=og }:=by
 have BJ:∀b,b∈fS X.outer->b∈fS X.stack:=λb hb=>by rw[fA];unfold fS at hb ⊢;rw[eI,hf];exact bX _ hb
 have vD:∀b o,X.dt.heap.get? b=some o->b∉fS X.outer->b∉fS X.stack:=λb o e hb z=>by
  rcases aF.mp (I.tG b z) with z|z
  ·exact absurd (aC e) (by rw[z];exact Pd.mpr I.ok.above)
  ·exact hb z
 have oV:∀b u,H b=some u->b∉fS X.stack:=λb u e z=>by rw[I.zD b z] at e;cases e
 have kept:∀b o,s.heap.get? b=some o->b∉fS X.stack->(H b≠none\/∃o0,X.dt.heap.get? b=some o0)->og.get? b=some o:=λb o e n q=>fw.1 b o (tU b o e n q);have vF:∀b,b∉X.ex:=λb=>by rw[hex];simp
 refine#[C,H,I.os,I.bare,#[?_,?_,?_,?_,I.base.iC,I.base.ic,I.base.iD],?_,#[ea,a0,B,rfl,fw,?_],hE]
 ·exact λb o e n1 n2 _=>kept b o (I.base.keep b o e n1 n2 (vF b)) (vD b o e n2) (.inr #[o,e])
 ·intro b o e n1 n2 _;let#[PL,e1]:=I.base.slot b o e n1 n2 (vF b);let#[kZ,e2]:=sl b (BJ b n2) _ e1;exact#[kZ,e2]
 ·exact λb o e n1 _=>I.base.free b o e n1 (vF b)
 ·intro b o e _;let#[o1,e1]:=I.base.there b o e (vF b);by_cases hb:b∈fS X.stack
  ·let#[kZ,e2]:=sl b hb _ e1;exact#[_,e2]
  ·exact#[o1,kept b o1 e1 hb (.inr #[o,e])]
 ·intro a o e;exact (I.bJ a o e).J7 (λb u hb q=>by
   have jw:∃v,H b=some v:=by
    rcases hb with rfl|hb
    ·exact#[o,e]
    ·exact#[_,hb]
   let#[v,hv]:=jw;exact kept b u q (oV b v hv) (.inl (by rw [hv];simp))) (λb hb=>hb) (λb xs hb=>hb)
 ·intro b o e n q;rcases q with q|⟨o0,q⟩
  ·let#[v,hv]:=oN.mp q;let#[o1,e1]:=(I.bJ b v hv).get;have z:=tU b o1 e1 (oV b v hv) (.inl (by rw[hv];simp));have z':=fw.1 b o1 z;have:o=o1:=by
    have e':og.get? b=some o:=e;rw[z'] at e';exact(aG e').symm
   subst this;exact z
  ·let#[o1,e1]:=I.base.there b o0 q (vF b);have z:=tU b o1 e1 (vD b o0 q n) (.inr #[o0,q]);have z':=fw.1 b o1 z;have:o=o1:=by
    have e':og.get? b=some o:=e;rw[z'] at e';exact(aG e').symm
   subst this;exact z
def aO0{h0}{Ex}(I:Inv X pi Z H s)(fl:Gu H h0 X.stack e C s.heap)(Sf:∀b o,X.dt.heap.get? b=some o->∃o',h0.get? b=some o')(fA:X.stack=X.env::X.outer)(hex:X.ex=[])(hf:X.env.frame=some X.env.locals)(hE:E (.ref C) none H):wpAny (model X.prog X.w) X.A (leaving X.env e) (λ_ oX=>gY X.prog X.w X.outer X.ju X.dt E e oX) Ex s:=by
 let#[ea,a0,B,rfl,fw,hB]:=fl;rw[fA] at fw;refine wpAny_leaves_onW (by rw[I.ok.frames,fA]) hf fw λog zc us=>?_;refine Gz I fA hex hf (λb o e n q=>hB b o e n (q.imp id (by rintro ⟨o0,q⟩;exact Sf b o0 q))) (λb hb o e=>?_) zc hE;let#[o1,e1,nf]:=zE I hb;rw[e] at e1;cases e1;exact us b o e nf
def a28{h'}{vs}{Ex}(I:Inv X pi Z H s)(hx:Heap.MadeExcOf s.heap h' ea (.ref C) vs)(fA:X.stack=X.env::X.outer)(hex:X.ex=[])(hf:X.env.frame=some X.env.locals)(hE:E (.ref C) none H):wpAny (model X.prog X.w) X.A (leaving X.env (.ref ea)) (λ_ oX=>gY X.prog X.w X.outer X.ju X.dt E (.ref ea) oX) Ex { s with heap:=h' }:=by
 have ub:=I.stack;rw[fA] at ub;have mV:∀env∈(X.env::X.outer),∀b,env.frame=some b->b∈fS X.stack:=λenv he b hb=>by rw[fA];exact jW.mpr #[env,he,hb]
 refine wpAny_leaves_madeW (s:={ s with heap:=h' }) (base:=PySem.W.hideAll s.heap (fS X.stack)) (h:=s.heap) (by rw[I.ok.frames,fA]) hf (λb o q=>Pb _ q) (PySem.W.funFrames_hide ub mV) hx λog t fw _ _ us=>?_;refine(show gY X.prog X.w X.outer X.ju X.dt E (.ref ea) { s with heap:=og } from Gz I fA hex hf (λb o e n _=>Ha _ e n) (λb hb o e=>?_) fw hE);let#[o1,e1,nf]:=zE I hb;rw[e] at e1;cases e1;exact us b o (hx.keeps b o e) nf
def Wr{l}{h0 h h1}{Pg}(u:Un (fS l) [] H H' h0 h)(ok:gc Pg w H' h)(hB:∀b o,h.get? b=some o->b∉fS l->(H' b≠none\/∃o0,h0.get? b=some o0)->B.get? b=some o)(st:B.StaysIn h1)(us:h.UpToSlots h1)(Ig:∀b∈fS l,H' b=none/\∃o,h.get? b=some o/\∀vs,o.data≠.fields vs):Un (fS l) [] H H' h0 h1/\gc Pg w H' h1/\∀b o,h1.get? b=some o->b∉fS l->(H' b≠none\/∃o0,h0.get? b=some o0)->B.get? b=some o:=by
 have oV:∀b u,H' b=some u->b∉fS l:=λb u e z=>by rw[(Ig b z).1] at e;cases e
 have kept:∀b o,h.get? b=some o->b∉fS l->(H' b≠none\/∃o0,h0.get? b=some o0)->h1.get? b=some o:=λb o e n q=>st b o (hB b o e n q);have IL:∀b∈fS l,∀o,h.get? b=some o->∃sl,h1.get? b=some { o with slots:=sl }:=λb hb o e=>by
  let#[_,o1,e1,nf]:=Ig b hb;rw[e] at e1;cases e1;exact us b o e nf
 refine#[#[?_,?_,u.free,?_,u.iC,u.ic,u.iD],?_,?_]
 ·exact λb o e n1 n2 n3=>kept b o (u.keep b o e n1 n2 n3) n2 (.inr #[o,e])
 ·intro b o e n1 n2 n3;let#[PL,e1]:=u.slot b o e n1 n2 n3;let#[kZ,e2]:=IL b n2 _ e1;exact#[kZ,e2]
 ·intro b o e n;let#[o1,e1]:=u.there b o e n;by_cases hb:b∈fS l
  ·let#[kZ,e2]:=IL b hb _ e1;exact#[_,e2]
  ·exact#[o1,kept b o1 e1 hb (.inr #[o,e])]
 ·intro a o e;exact (ok a o e).J7 (λb u hb q=>by
   have jw:∃v,H' b=some v:=by
    rcases hb with rfl|hb
    ·exact#[o,e]
    ·exact#[_,hb]
   let#[v,hv]:=jw;exact kept b u q (oV b v hv) (.inl (by rw [hv];simp))) (λb hb=>hb) (λb xs hb=>hb)
 ·intro b o e n q;have:∃o1,h.get? b=some o1:=by
   rcases q with q|⟨o0,q⟩
   ·let#[v,hv]:=oN.mp q;exact(ok b v hv).get
   ·exact u.there b o0 q #[_]
  let#[o1,e1]:=this;have z:=hB b o1 e1 n q;rw[st b o1 z] at e;cases e;exact z
structure Lies(X:Cx)(H H':Hp)(s:Shared)(B:Heap)(ea C:Addr)(a0:Value)(s':Shared):Prop where
 os:s'.os=s.os
 bare:AllBare s'.gens
 un:Un (fS X.stack) [] H H' s.heap s'.heap
 bJ:gc X.prog X.w H' s'.heap
 tU:∀b o,s'.heap.get? b=some o->b∉fS X.stack->(H' b≠none\/∃o0,s.heap.get? b=some o0)->B.get? b=some o
def Lies.inv(I:Inv X pi Z H s)(l:Lies X H H' s B ea C a0 s'):Inv X pi Z H' s':=I.Gw (ch:=[]) l.os l.un l.bJ l.bare #[_]
def leave_held{Ex}(I:Inv X pi Z H s)(l:Lies X H H' s B ea C a0 s')(hh:Heap.HeldW B X.stack ea (.ref C) a0 X.env.locals s'.heap)(fA:X.stack=X.env::X.outer)(hex:X.ex=[])(hf:X.env.frame=some X.env.locals)(hE:E (.ref C) none H'):wpAny (model X.prog X.w) X.A (leaving X.env (.ref ea)) (λ_ oX=>gY X.prog X.w X.outer X.ju X.dt E (.ref ea) oX) Ex s':=by
 have J:=l.inv I;have BZ:=hh;rw[fA] at BZ;refine ae (wpAny_noteFrame_againW hf BZ.2.2.2 ?_);refine wpAny_landsW BZ λog fl us=>?_;let#[k1,k2,#[_,_,k3],k4]:=fl;refine Gz J fA hex hf (λb o e n q=>l.tU b o e n (q.imp id (by rintro ⟨o0,q⟩;exact I.base.there b o0 q (by rw[hex];simp)))) (λb hb o e=>?_) #[k1,k2,k3,k4] hE;let#[o1,e1,nf]:=zE J hb;rw[e] at e1;cases e1;exact us b o e nf
abbrev zr(X:Cx)(Ξ:XK):Prop:=∀(pi:List (Addr×Obj)) (Z:St) (H:Hp) (s:Shared) (h':Heap) (ea C:Addr) (vs:List Value),Inv X pi Z H s->Heap.MadeExcOf s.heap h' ea (.ref C) vs->Ξ (.ref C) none H->X.xe (.ref ea) { s with heap:=h' }
abbrev xr(X:Cx)(Ξ:XK):Prop:=∀(pi:List (Addr×Obj)) (Z:St) (H H':Hp) (s s':Shared) (B:Heap) (ea C:Addr) (a0:Value),Inv X pi Z H s->Lies X H H' s B ea C a0 s'->Heap.HeldW B X.stack ea (.ref C) a0 X.env.locals s'.heap->Ξ (.ref C) none H'->X.xe (.ref ea) s'
abbrev bH0(C:Addr)(Ξ:XK)(t:TA):TS:=λ_ Z H=>t Z H λvs H1=>vs.length<=sizeLine/\Ξ (.ref C) none H1
def VD{x}{B newId gG}{bm}{np eL}{jK}{rest}{t}{Ξ}(hc:X.calm=true)(O:OwnCls x C bm newId X.mg X.base)(FB:ExcBaseFacts B newId gG bm)(hg:Gl X x)(ha:PA X (jK::rest) t)(hr:zr X Ξ)(he:starEach (jK::rest) X.env=(false,eval jK X.env)::starEach rest X.env)(fe:(backTo eL (starEach rest X.env)).any (·.1)=false)(hd:(x==("__debug__":Str))=false) :
  PS X (.Raise (some (.Call (.Name x np) (jK::rest) [] eL)) none pos) (bH0 C Ξ t):=by
 intro pi s Z H D I h;let#[tl,N,nm,q,bs,hdct,sn,sub,ab,col,dd,k0,k1,k2,k3,k5,mN,hC,hN,yQ,T]:=O.obj;refine wpAny_Raise_call_subT (C:=C) (nm:=nm) (q:=q) (N:=N) (bs:=bs) (bm:=tl) (hdct:=hdct) (sn:=sn) (sub:=sub) (ab:=ab) (col:=col) (dd:=dd) (k0:=k0) (k1:=k1) (k2:=k2) (k3:=k3) (k5:=k5)
  FB (mN:=mN) (T.hasType FB.hasBase) (I.ok.hd hc) (by rw[he];show(false||(backTo eL (starEach rest X.env)).any (·.1))=false;rw[fe];rfl) yQ (U6 I hg O.bound #[rfl,?_] hd)
 have h':=ha eL pi s Z H _ I h;rw[he] at h' ⊢;refine kF (aY h' (λvs eT gj=>?_) λ_ _ y=>y);let#[ws,H1,I1,rv,hz,hE]:=gj;exact#[rfl,by rw[<- rv.length];exact hz,I1.bk _ _ hC,hN.keeps I1.bk,T.keeps I1.bk,λh2 ea hm=>hr pi Z H1 eT h2 ea C vs I1 hm hE]
abbrev qY(X:Cx)(pi:List (Addr×Obj))(xe:Value->Shared->Prop)(o:Option St:=none):Cx:={ X with pn:=X.pn++pi,xe:=xe,sg:=o }
abbrev L0(X:Cx)(ea:Addr):Cx:={ X with A:=X.A.mark (some (.ref ea)),calm:=false,xe:=λ_ _=>False,sg:=none }
def Inv.Yp{xe}{o}(ho:∀τ,o=some τ->Z=τ)(I:Inv X pi Z H s):Inv (qY X pi xe o) [] Z H s :=
 #[#[I.ok.mod,I.ok.kind,I.ok.glob,I.ok.blt,I.ok.above,I.ok.inj,I.ok.has,I.ok.gW,I.ok.hd,I.ok.frames,I.ok.rC,I.ok.wO,I.ok.bs,I.ok.nu,I.ok.kd,I.ok.kU,I.ok.Q4,I.ok.oh],I.os,I.bare,I.base,I.loc,I.cell,I.free,I.eK,
  λp hp=>I.pin p (by simpa [qY] using hp),I.bJ,I.len,ho]
def Inv.tu{xe}{o}{fo}(hs:X.sg=none)(I:Inv (qY X pi xe o) fo Z H s):Inv X pi Z H s :=
 #[#[I.ok.mod,I.ok.kind,I.ok.glob,I.ok.blt,I.ok.above,I.ok.inj,I.ok.has,I.ok.gW,I.ok.hd,I.ok.frames,I.ok.rC,I.ok.wO,I.ok.bs,I.ok.nu,I.ok.kd,I.ok.kU,I.ok.Q4,I.ok.oh],I.os,I.bare,I.base,I.loc,I.cell,I.free,I.eK,
  λp hp=>I.pin p (eh _ hp),I.bJ,I.len,λ_ z=>by simp_all]
def Inv.OJ(I:Inv X pi Z H s):Inv (L0 X ea) pi Z H s :=
 #[#[I.ok.mod,I.ok.kind,I.ok.glob,I.ok.blt,I.ok.above,I.ok.inj,I.ok.has,I.ok.gW,λz=>(by cases z),I.ok.frames,I.ok.rC,I.ok.wO,I.ok.bs,I.ok.nu,I.ok.kd,I.ok.kU,I.ok.Q4,I.ok.oh],I.os,I.bare,I.base,I.loc,I.cell,I.free,I.eK,I.pin,I.bJ,I.len,λcW z=>absurd (show(none:Option St)=some cW from z) #[_]]
def Inv.uD(hs:X.sg=none)(J:X.Ok)(I:Inv (L0 X ea) pi Z H s):Inv X pi Z H s :=
 #[J,I.os,I.bare,I.base,I.loc,I.cell,I.free,I.eK,I.pin,I.bJ,I.len,λ_ z=>by simp_all]
def SP.tu{xe}{o}{D}{f}(hs:X.sg=none)(h:SP (qY X pi xe o) [] D f s):SP X pi D f s:=by
 cases f with
 |next=>let#[a,b,I,q]:=h;exact#[a,b,I.tu hs,q]
 |brk=>let#[a,b,I,q]:=h;exact#[a,b,I.tu hs,q]
 |cont=>let#[a,b,I,q]:=h;exact#[a,b,I.tu hs,q]
 |ret u=>let#[v,a,b,I,r,q]:=h;exact#[v,a,b,I.tu hs,r,q]
def SP.uD{ea}{D}{f}(hs:X.sg=none)(J:X.Ok)(h:SP (L0 X ea) pi D f s):SP X pi D f s:=by
 cases f with
 |next=>let#[a,b,I,q]:=h;exact#[a,b,I.uD hs J,q]
 |brk=>let#[a,b,I,q]:=h;exact#[a,b,I.uD hs J,q]
 |cont=>let#[a,b,I,q]:=h;exact#[a,b,I.uD hs J,q]
 |ret u=>let#[v,a,b,I,r,q]:=h;exact#[v,a,b,I.uD hs J,r,q]
abbrev sY(X:Cx)(D:Ends)(cW:St)(C:Addr)(H:Hp):List ExceptHandler->Prop
 |.ExceptHandler (some (.Name x _)) none (xc::qi) _::rest=>Gl X x/\(x==("__debug__":Str))=false/\∃C' b,X.mg x=some (.ref C')/\PySem.W.exmOne X.K (.ref C) (.ref C')=some b /\
   (if b=true then ∃t:TS,(∀ea,jd (L0 X ea) (xc::qi) t)/\t D cW H else sY X D cW C H rest)
 |[]=>∃Ξ:XK,xr X Ξ/\Ξ (.ref C) none H
 |_=>False
end
section
variable{pi:List (Addr×Obj)}{e:Value}{D:Ends}
abbrev Au(X:Cx)(pi:List (Addr×Obj))(D:Ends)(hs:List ExceptHandler):Value->Shared->Prop:=λe bz =>
 wpAny (model X.prog X.w) X.A (noteFrame e X.env) (λ_ eT=>wpAny (model X.prog X.w) X.A (setFlight e none) (λ_ dQ=>wpAny (model X.prog X.w) X.A (handleBy e X.env hs) (SP X pi D) X.xe dQ) X.xe eT) X.xe bz
def Lies.step{h1}(I:Inv X pi Z H s)(l:Lies X H H' s B ea C a0 s')(st:B.StaysIn h1)(us:s'.heap.UpToSlots h1):Lies X H H' s B ea C a0 { s' with heap:=h1 }:=by
 have J:=l.inv I;let#[u,ok,ib]:=Wr l.un l.bJ l.tU st us λb hb=>#[J.zD b hb,zE J hb]
 exact#[l.os,l.bare,u,ok,ib]
def aS7{l}{L}{cls}{A}{M}{E}{Q}(fw:Heap.FlyingW B l ea cls a0 s.heap)(h:∀h',Heap.HeldW B l ea cls a0 L h'->(∀b o,s.heap.get? b=some o->(∀vs,o.data≠.fields vs)->h'.get? b=some o)->Q Unit.unit { s with heap:=h' }):wpAny M A (setFlight (.ref ea) (some L)) Q E s:=by
 let#[f1,f2,f3,oe,vs,T,oT,ts,he,pA,hd,h1,QU,Iq,hT,yT,h3]:=fw;have vS:3<ts.size:=(Array.getElem?_eq_some_iff.mp h3).1;have other:∀b,b≠T->(s.heap.update T (Obj.mapFields (·.setIfInBounds 3 ((some L).elim Value.none λf=>rawInt f)))).get? b=s.heap.get? b :=
  λb hb=>cw _ _ (aZ hb)
 have ke:∀b o,s.heap.get? b=some o->(∀vs,o.data≠.fields vs)->b≠T:=λb o hb vW q=>by
  rw[q,hT] at hb;injection hb with hb;subst hb;exact vW ts yT
 refine ae (ko he hd h1 ?_);refine dJ hT yT vS (h _ #[λb o RA=>(other b λq=>by simp_all).trans (f1 b o RA),f2,
  f3.of_keeps λb o hb vW=>#[o,(other b (ke b o hb vW)).trans hb,rfl],?_] λb o hb vW=>(other b (ke b o hb vW)).trans hb)
 exact#[oe,vs,T,_,_,(other ea (aZ Iq)).trans he,pA,hd,h1,QU,Iq,bc _ hT (du (bC yT _)),bC yT _,by simp[vS]]
def NZ{B}{ea C}{a0}{cW}(nR:X.sg=none)(hf:X.env.frame=some X.env.locals)(yR:cW.length=Z.length)(yK:∀(i:Nat) v,cW[i]?=some (some v)->Z[i]?=some (some v)):∀(hs:List ExceptHandler) (s':Shared),Inv X pi Z H s->Lies X H H' s B ea C a0 s'->Heap.FlyingW B X.stack ea (.ref C) a0 s'.heap->sY X D cW C H' hs ->
  wpAny (model X.prog X.w) X.A (handleBy (.ref ea) X.env hs) (SP X pi D) X.xe s'
 |[],s',I,l,fw,t=>by
  let#[Ξ,hh,hE]:=t;refine wpAny_handleBy_nil ?_;let#[f1,f2,f3,oe,vs,T,oT,ts,he,pA,hd,h1,_]:=id fw;refine ae (ko he hd h1 ?_);rw[az #[_],hf];refine ae (aS7 fw λh2 held k=>wpAny_throw ?_);have l2:=l.step I held.1 (λb o hb hn=>#[o.slots,k b o hb hn]);exact hh pi Z H H' s _ B ea C a0 I l2 held hE
 |.ExceptHandler none _ _ _::_,_,_,_,_,t=>t.elim
 |.ExceptHandler (some e) nm bd pos::rest,s',I,l,fw,t=>by
  cases e
  case Name x np =>
   cases nm with
   |some y=>exact t.elim
   |none =>
    cases bd with
    |nil=>exact t.elim
    |cons xc qi =>
     let#[hg,hU,C',b,hm,hx,q]:=t;have J:=l.inv I;have JM:Inv (L0 X ea) pi Z H' s':=J.OJ;have LT:PySem.W.Looks (model X.prog X.w) s'.heap (typeOf (.ref ea)) (.ref C):=λA Q E s2 k q=>by
      let#[ob,ho,hc]:=fw.there;exact wpAny_typeOf_ref (k _ _ ho) (by rw[hc];exact q)
     refine wpAny_handleBy_cons (codeAny_handlers_test ?_) (by intro z;cases z);refine U6 (X:=L0 X ea) JM hg hm ?_ hU;refine(PySem.W.exm_one (M:=model X.prog X.w) J.gA LT hx).here ?_;cases b with
     |false =>
      exact NZ nR hf yR yK rest s' I l fw q
     |true =>
      let#[t,ht,hq]:=q;refine codeAny_handlers_suite ?_;refine wpAny_setFlight_noneW fw.1 fw.2.2.1 fw.2.2.2.at λh2 k1 k2 k3 k4=>?_;have l2:=l.step I k1 (λb o hb hn=>#[o.slots,k4 b o hb hn]);have J2:=l2.inv I;have J3:Inv (L0 X ea) pi cW H' { s' with heap:=h2 }:=(Inv.weak nR J2 yR yK).OJ;refine aY (ht ea pi _ _ H' D J3 hq) (λf s2 hf=>hf.uD nR I.ok) λ_ _ z=>z.elim
  all_goals exact t.elim
def Vo{hs}{Ξ}{o}{cW}(nR:X.sg=none)(fA:X.stack=X.env::X.outer)(hf:X.env.frame=some X.env.locals)(BB:∀Z:St,Z.length=X.N.length->(∀τ,o=some τ->Z=τ)->cW.length=Z.length/\∀(i:Nat) v,cW[i]?=some (some v)->Z[i]?=some (some v))(hT:∀C H',Ξ (.ref C) none H'->sY X D cW C H' hs) :
  Passes (gY X.prog X.w) (qY X pi (Au X pi D hs) o) Ξ:=by
 intro fo Z H s e s' I0 h;have I:Inv X pi Z H s:=I0.tu nR;let#[yR,yK]:=BB Z I.len I0.sg;let#[C,H',ho,hb,hu,bJ,#[ea,a0,B,rfl,fw,hB],hE]:=h;have l:Lies X H H' s B ea C a0 s':=#[ho,hb,hu,bJ,hB]
 have fw:Heap.FlyingW B X.stack ea (.ref C) a0 s'.heap:=fw;have zc:=fw;rw[fA] at zc;refine wpAny_looks_onW (by rw[I.ok.frames,fA]) hf zc λh1 held us=>?_;have l1:=l.step I held.1 us;refine wpAny_landsW held λh2 fl Po=>?_;have l2:=l1.step I fl.1 Po;rw[<- fA] at fl;exact NZ nR hf yR yK hs _ I l2 fl (hT C H' hE)
def ZR{hs}{h₀}{body}{t:Ends->St->TS}{Ξ:Ends->St->XK}(f:St->Option St)(z:St->St)(hz:∀Z τ,f Z=some τ->Z=τ)(nR:X.sg=none)(hb:∀pi D Z,(∀C H',Ξ D Z (.ref C) none H'->sY X D (z Z) C H' (h₀::hs))->jd (qY X pi (Au X pi D (h₀::hs)) (f Z)) body (t D Z)) :
  PS X (.Try body (h₀::hs) [] [] pos) (λD Z H=>(∀C H',Ξ D Z (.ref C) none H'->sY X D (z Z) C H' (h₀::hs))/\t D Z D Z H):=by
 intro pi s Z H D I ⟨hT,h⟩;refine wpAny_Try_except (aY (hb pi D Z hT [] s Z H D (I.Yp (hz Z)) h) (λf s1 q=>?_) λe s1 q=>q);have q:=q.tu nR;cases f with
 |next =>
  let#[bV,H',I',q]:=q;exact cE (jQ #[bV,H',I',q]) λ_ _ z=>z
 |brk=>exact q
 |cont=>exact q
 |ret u=>exact q
end
abbrev GR(K:PySem.W.Frag)(a:Addr):It :=
 #[λi H=>∃xs x,fq K H a xs/\xs[i]?=some x,λi H v H'=>∃p x,H p=none/\v=.ref p/\(∀xs,fq K H a xs->xs[i]?=some x)/\H'=upd H p (.tup [.int i,x]),λi H=>∃xs,fq K H a xs/\xs.length<=i]
def a60{P}{K}{elts}{x1}{tp}(a e it:Addr)(Ih:e≠it):Turn P w K (.Tuple elts x1 tp) (GR K a) [e,it] e (λi h=>(∃old,IsEnum h e it i old)/\h.IsListIter it a i) where
 mem:=by simp
 obj:=λi h st b hb=>by
  let#[#[old,h1],o,h2,c,d]:=st;rcases aF.mp hb with z|z
  ·subst z;exact #[_,h1,λv z=>by
    have z':Data.fields _=Data.cell v:=z;cases z']
  ·have z:b=it:=by simpa using z
   subst z;exact#[o,h2,λv z=>by rw[d] at z;cases z]
 keep:=λi h h' st k=>by
  let#[#[old,h1],h2]:=st;exact#[#[old,k e #[_] _ h1],h2.at λo x=>k it #[_] o x]
 item:=by
  intro X hP hw hK hc i pi s Z H E I hf st hg;subst hP hw hK;let#[#[old,h1],h2]:=st;let#[xs,x,hq,hx]:=hg;let#[aU,rv,p,hz]:=I.list hq;let#[u,hu,ru]:=rv.get hx;let#[e0,e1,e2,e3,e4,e5]:=hf e #[_];let#[f0,f1,f2,f3,f4,f5]:=hf it #[_];refine wpAny_pyNext_enum_item h1 h2 p.isList (x:=u) (by simpa using hu) Ih λh' sj BX vR HL qv=>?_;refine#[_,rfl,wpAny_letOwnedTupleGo_enum sj λwJ Rn hJ=>?_];have hJ:Heap.SameBut e h' wJ:=hJ;have elt:e<s⁻¹:=aC h1;have kp:∀b o,b≠e->b≠it->s.heap.get? b=some o->wJ.get? b=some o:=λb o b1 b2 q=>(hJ.2 b b1).trans (qv b o b1 b2 q);have hn:H s⁻¹=none:=I.bJ.fresh (av _);have rA:wJ.get? s⁻¹=some { cls:=.type "tuple",data:=.seq (List.toArray [.int i s.toks,u]) }:=(hJ.2 _ (bI elt)).trans vR;have ne:∀b u',H b=some u'->b≠e/\b≠it:=λb u' q=>And.intro (λ(z:b=e)=>by simp_all) (λ(z:b=it)=>by simp_all);have bJ:gc X.prog X.w (upd H s⁻¹ (.tup [.int i,x])) wJ:=λb o q=>by
   by_cases hb:b=s⁻¹
   ·subst hb;rw[k6] at q;cases q;exact#[by change 2<=sizeLine;decide,[.int i s.toks,u],.cons #[_,rfl] (.cons ru .nil),_,rA,rfl,#[_,rfl],rfl]
   ·rw[d0 hb] at q;refine(I.bJ b o q).J7 (λc v hc q'=>?_) (λc q'=>by rw[d0 (i7 q' hn)];exact q') λc ys q'=>by rw[d0 (i7 q' hn)];exact q'
    rcases hc with z|z
    ·subst z;exact kp _ _ (ne _ _ q).1 (ne _ _ q).2 q'
    ·exact kp _ _ (ne _ _ z).1 (ne _ _ z).2 q'
  have I2:Inv X pi Z (upd H s⁻¹ (.tup [.int i,x])) { s with heap:=wJ,toks:=s.toks+1 }:=by
   refine I.step (g':=s.gens) (d':=s.drawn) (t':=s.toks+1) (ch:=[e,it]) (λb hb=>?_) (λb o _ _ hb q _=>kp b o (λz=>hb (by simp[z])) (λz=>hb (by simp[z])) q) (λb o _ _ hb q _=>#[o.slots,kp b o (λz=>hb (by simp[z])) (λz=>hb (by simp[z])) q])
    (λb o _ q n=>by rw[d0 (aN (aC q))];exact n) (λb o hb q=>#[o,kp b o (λz=>hb (by simp[z])) (λz=>hb (by simp[z])) q])
    (λb ys q=>by rw[d0 (i7 q hn)];exact q) (λb o' ys q=>by rw[d0 (i7 q hn)];exact q) (λb ps q=>#[(List.toArray []),by rw[d0 (i7 q hn),q];simp]) (λm hm=>?_) bJ I.bare
   ·rcases aF.mp hb with z|z
    ·subst z;exact#[e3,e1,e4,e5]
    ·have z:b=it:=by simpa using z
     subst z;exact#[f3,f1,f4,f5]
   ·let#[o,es,ep,ho,r]:=hm;exact#[o,es,ep,kp _ o (aZ e1) (aZ f1) ho,r]
  refine#[.ref s⁻¹,_,I2,rfl,#[s⁻¹,x,hn,rfl,λys hy=>by rw[I.En hy hq];exact hx,rfl],#[#[u,by simpa using Rn],BX.at λo y=>(hJ.2 it Ih.symm).trans y],λb hb=>?_];have jw:b<s⁻¹:=by
   rcases aF.mp hb with z|z
   ·subst z;exact elt
   ·have z:b=it:=by simpa using z
    subst z;let#[o,h2,_]:=h2;exact aC h2
  rw[d0 (aN jw)];exact(hf b hb).1
 done:=by
  intro X hP hw hK hc i pi s Z H E I hf st hg;subst hP hw hK;let#[#[old,h1],h2]:=st;let#[xs,hq,hx]:=hg;let#[aU,rv,p,hz]:=I.list hq;let#[f0,f1,f2,f3,f4,f5]:=hf it #[_];have hl:=rv.length;exact wpAny_pyNext_enum_end (I.ok.hd hc) h1 h2 p.isList (by simp;omega) λh' eb=>#[rfl,I.turned (t':=s.toks) (λb o hb e=>eb b o hb e) f0 f1 f3 f4 f5]
 self:=λ_ _ _ _ _ st h=>by
  let#[#[old,h1],h2]:=st;exact wpAny_pyIter_enum h1 h
def MF{l}{tp}{elts}{x1}(hg:Gl X "enumerate")(hm:X.mg "enumerate"=none)(ha:PA X [l] ta)(hs:starEach [l] X.env=[(false,eval l X.env)]) :
  PI X (.Tuple elts x1 tp) (.Call (.Name "enumerate" p) [l] [] pos) (λZ H R=>ta Z H λvs H1=>∃a,vs=[.ref a]/\(∃xs,fq X.K H1 a xs)/\R (GR X.K a) H1):=by
 intro pi s Z H R I h;refine Call_ (T4 I hg hm PyProof.Rows.boot_enumerate (bR (cE (ha pos pi s Z H _ I h) λus s1 bp=>?_) hs rfl));let#[vs,H1,I1,r1,q1]:=bp;let#[a,e,#[xs,hq],q]:=q1;subst e;cases r1 with
 |cons r rr =>
  cases rr;cases r;let#[aU,rv,p,hz]:=I1.list hq;refine call_enumerate_list p.isList λh' he hit hsz hk=>wpAny_pyIter_enum he ?_;refine#[s1⁻¹+1,[s1⁻¹+1,s1⁻¹],_,_,H1,rfl,I1.kept (t':=s1.toks) hk,a60 a _ _ #[_],#[#[_,he],hit],λb hb=>?_,q];have jw:s1⁻¹<=b:=by
   rcases aF.mp hb with z|z
   ·simp_all
   simp_all
  exact I1.oz jw (I1.bJ.fresh jw)
def a29{lo}{acc}{n}(h:ItemsOf (λi v=>∃t,v=.int (lo+i*1) t) acc n):Vals ((List.range n).map λ(k:Nat)=>V.int (lo+k)) acc.toList:=by
 have hl:acc.toList.length=n:=by
  have:=h.1;omega
 have go:∀(m:Nat) (l:List Value),l.length<=n->m+l.length=n->(∀i v,l[i]?=some v->∃t,v=Value.int (lo+((m+i:Nat):Int)) t)->Vals ((List.range' m l.length).map λ(k:Nat)=>V.int (lo+k)) l:=by
  intro m l
  induction l generalizing m with
  |nil=>intro _ _ _;exact .nil
  |cons x r ih =>
   intro h1 h2 h3;refine .cons ?_ (ih (m+1) (by simp at h1;omega) (by simp at h2;omega) λi v hv=>?_)
   ·let#[t,e]:=h3 0 x rfl;exact#[t,by rw[e];simp]
   ·let#[t,e]:=h3 (i+1) v (by simpa using hv)
    grind
 have:=go 0 acc.toList () () λi v hv=>?_
 ·rw[hl,<- List.range_eq_range'] at this;exact this
 ·have:acc[i]?=some v:=by rw[<- iS];exact hv
  let#[t,e]:=h.2 i v this;refine#[t,?_];rw[e];simp
def LU(hc:X.calm=true):p9 X (.type "list") (λxs H Q=>∃a lo hi,xs=[.ref a]/\H a=some (.lZ lo hi)/\(-(2 ^ 62)<=lo/\lo<2 ^ 62/\-(2 ^ 62)<=hi/\hi<2 ^ 62/\hi-lo<=100000)/\∀p,H p=none->Q (.ref p) (upd H p (.lst ((List.range (hi-lo).toNat).map λ(k:Nat)=>V.int (lo+k))))):=by
 intro pi s Z H xs us Q I r h;let#[a,lo,hi,rfl,ha,#[h1,h2,h3,h4,h5],q]:=h;let#[t,u,v,ho]:=I.bJ a _ ha;cases r with
 |cons r rr =>
 cases rr;cases r;have hn:Builtin.Range.rangeSize lo hi 1=((hi-lo).toNat:Nat):=by rw[rangeSize_one];split<;>omega
 refine call_list_range (n:=(hi-lo).toNat) (I.ok.hd hc) ho (small_one h1 h2 h3 h4) hn () λh' jv acc c hk hS iY=>?_;have hp:H s⁻¹=none:=I.bJ.fresh (av _);refine#[.ref _,_,I.laid (a:=s⁻¹) (o:=.lst ((List.range (hi-lo).toNat).map λ(k:Nat)=>V.int (lo+k))) (t':=jv) hk (av _) #[?_,acc.toList,c,a29 iY,by simpa using hS],rfl,q _ hp];rw[ai,List.length_range];have:(hi-lo).toNat<=100000:=by omega
 exact aD this ∅
def a93{a}(hg:Gl X "range")(hm:X.mg "range"=none)(ha:PA X [a] ta)(hs:starEach [a] X.env=[(false,eval a X.env)]):PE X (.Call (.Name "range" p) [a] [] pos) (λZ H Q=>ta Z H λvs H1=>∃j:Int,vs=[.int j]/\∀q,H1 q=none->Q (.ref q) (upd H1 q (.lZ 0 j))):=by
 intro pi s Z H Q I h;refine cO (T4 I hg hm boot_range (bR (cE (ha pos pi s Z H _ I h) λus s1 bp=>?_) hs rfl));let#[vs,H1,I1,r1,q1]:=bp;let#[j,e,q]:=q1;subst e;cases r1 with
 |cons r rr =>
  cases rr;let#[t,rfl]:=r;exact call_range_1 #[.ref s1⁻¹,_,I1.laid (a:=s1⁻¹) (o:=.lZ 0 j) (λb o e=>aj _ e) (av _) #[_,_,_,aB _ rfl],rfl,q _ (I1.bJ.fresh (av _))]
def a92{a b}(hg:Gl X "range")(hm:X.mg "range"=none)(ha:PA X [a,b] ta)(hs:starEach [a,b] X.env=[(false,eval a X.env),(false,eval b X.env)])(hJ:starEach [b] X.env=[(false,eval b X.env)]):PE X (.Call (.Name "range" p) [a,b] [] pos) (λZ H Q=>ta Z H λvs H1=>∃i j:Int,vs=[.int i,.int j]/\∀q,H1 q=none->Q (.ref q) (upd H1 q (.lZ i j))):=by
 intro pi s Z H Q I h;refine cO (T4 I hg hm boot_range (bR (cE (ha pos pi s Z H _ I h) λus s1 bp=>?_) (by rw[hs,hJ]) (by rw[hJ];rfl)));let#[vs,H1,I1,r1,q1]:=bp;let#[i,j,e,q]:=q1;subst e;cases r1 with
 |cons r rr =>
  cases rr with
  |cons r' rr =>
   cases rr;let#[t,rfl]:=r;let#[t',rfl]:=r';exact call_range_2 #[.ref s1⁻¹,_,I1.laid (a:=s1⁻¹) (o:=.lZ i j) (λb o e=>aj _ e) (av _) #[_,_,_,aB _ rfl],rfl,q _ (I1.bJ.fresh (av _))]
abbrev Ab(K:PySem.W.Frag)(P:Params)(a:Addr)(kvs:List (Str×V)):Prop :=
 ∃es n,K.lookup a=some #[.type "dict",none,.dict es n,(List.toArray [])]/\PySem.W.KeysLit P es.toList/\(a==sysModules)=false/\∀x,J0 (kvs.lookup x) (findBy Value.isStrOf es x)
def b02{kvs}:uY X (λx y H Q=>∃a z v,x=.ref a/\Ab X.K X.w.params a kvs/\y=.str z/\kvs.lookup z=some v/\Q v H):=by
 intro value slice pi s Z H x y v u Q I rx ry h hs;let#[a,z,d,rfl,#[es,n,hl,hk,lo,hf],rfl,hz,q]:=h;cases rx;let#[t,rfl]:=ry;have hm:=PySem.W.mapOf_K (prog:=X.prog) (w:=X.w) I.gA hl hk;have e:=hf z;rw[hz] at e;cases h2:findBy Value.isStrOf es z with
 |none=>rw[h2] at e;exact e.elim
 |some r =>
  rw[h2] at e;exact tail_any hm.typeIs slot_dict_getitem.lookup (wpAny_getItem_of (strKind_is X.prog X.w z t) hm h2 #[d,H,I.tok _,e,q]) hs
def bC9(hu:X.A.units+1<cLine):uY X (λx y H Q=>∃a v,x=.ref a/\ot H a y (some v)/\Q v H):=by
 intro value slice pi s Z H x y v u Q I rx ry h hs;let#[a,d,rfl,g,q]:=h;cases rx;exact tail_any (aT0 I g) slot_dict_getitem.lookup (WE hu I g ry λw' s3 I3 fE=>#[d,H,I3,fE,q]) hs
end L2
namespace ST
open PySem PyProof.Rows
variable{xs:Array Nat}{i k j n ep:Nat}{t:SetTable}{h h':Heap}{L:Bool}{es:Array (Int×Value)}{x f:Value}{prog:Program}{w:World}{a I b l:Addr}{ks ns:List Int}{A:Around}{E Q:Value->Shared->Prop}{s:Shared}{pl:List Nat}{α:Type}{r:Rd}{items:Array Value}
noncomputable abbrev kn(xs:Array Nat):Prop:=xs.toList.Pairwise (· < ·)
def kn.lt(h:kn xs)(we:i<k)(hk:k<xs.size):xs.getD i 0<xs.getD k 0:=by
 have:=da.mp h i k (by simpa using cR we hk) (by simpa using hk) we;rw[<- fC (h:=cR we hk),<- fC (h:=hk)];exact this
def kn.le(h:kn xs)(we:i<=k)(hk:k<xs.size):xs.getD i 0<=xs.getD k 0:=by
 rcases Nat.eq_or_lt_of_le we with e|e
 ·rw[e];exact av _
 ·exact dk (h.lt e hk)
def Gj{xs}{j}(h:kn xs):∀(fuel lo hi:Nat),hi-lo<=fuel->lo<=hi->hi<=xs.size->(∀i,i<lo->xs.getD i 0<j)->(∀i,hi<=i->i<xs.size->j<=xs.getD i 0) ->
  SetTable.below.go xs j fuel lo hi<=xs.size/\(∀i,i<SetTable.below.go xs j fuel lo hi->xs.getD i 0<j)/\∀i,SetTable.below.go xs j fuel lo hi<=i->i<xs.size->j<=xs.getD i 0
 |0,lo,hi,h1,h2,h3,h4,h5=>by
  have:lo=hi:=by omega
  subst this;exact#[h3,h4,h5]
 |fuel+1,lo,hi,h1,h2,h3,h4,h5=>by
  unfold SetTable.below.go;split
  ·have hm:(lo+hi) / 2<xs.size:=by omega
   have em:xs.getD ((lo+hi) / 2) j=xs.getD ((lo+hi) / 2) 0:=by simp[Array.getD,hm]
   dsimp only;rw[em];by_cases hc:xs.getD ((lo+hi) / 2) 0<j
   ·rw[aH hc];exact Gj h fuel _ hi () () h3 (λi iY=>gw (h.le () hm) hc) h5
   ·rw[az hc];exact Gj h fuel lo _ () () () h4 λi iY hs=>aD (Nat.le_of_not_lt hc) (h.le iY hs)
  ·have:lo=hi:=by omega
   subst this;exact#[h3,h4,h5]
def Z7(j:Nat)(h:kn xs):SetTable.below xs j<=xs.size/\(∀i,i<SetTable.below xs j->xs.getD i 0<j)/\∀i,SetTable.below xs j<=i->i<xs.size->j<=xs.getD i 0 :=
 Gj h _ 0 _ () () (av _) (λi hi=>absurd hi (iK _)) λi h1 h2=>absurd h2 ()
def below_at(h:kn xs)(hi:i<xs.size):SetTable.below xs (xs.getD i 0)=i:=by
 let#[h1,h2,h3]:=Z7 (xs.getD i 0) h;rcases fm (SetTable.below xs (xs.getD i 0)) i with z|z|z
 ·exact absurd (h3 _ (av _) ()) (Nat.not_le_of_lt (h.lt z hi))
 ·exact z
 ·exact absurd (h2 i z) (bL _)
def a45(h:kn xs)(hi:i<xs.size):SetTable.below xs (xs.getD i 0+1)=i+1:=by
 let#[h1,h2,h3]:=Z7 (xs.getD i 0+1) h;rcases fm (SetTable.below xs (xs.getD i 0+1)) (i+1) with z|z|z
 ·have:=h3 i () hi;omega
 ·exact z
 ·have:=h2 (i+1) z;have:=h.lt (lG i) (k:=i+1) ();omega
def a44(h:kn xs):SetTable.below xs 0=0:=by
 let#[_,h2,_]:=Z7 0 h;rcases Nat.eq_zero_or_pos (SetTable.below xs 0) with z|z
 ·exact z
 ·exact absurd (h2 0 z) (iK _)
def getD_mem(hi:i<xs.size):xs[i]?=some (xs.getD i 0):=by simp[Array.getD,hi]
def a02(h:kn t.place)(hs:t.slot j=.empty):j∉t.place.toList:=by
 intro hm;let#[i,hi,e]:=dq.mp hm;have iY:i<t.place.size:=by simpa using hi
 have ej:t.place.getD i 0=j:=by rw[<- fC (h:=iY)];simpa using e
 have hb:=below_at h iY;rw[ej] at hb;unfold SetTable.slot at hs;dsimp only at hs;rw[hb,getD_mem iY,ej] at hs;simp at hs
def a05(h:kn xs)(hj:j∉xs.toList):kn (SetTable.insertAt xs (SetTable.below xs j) j):=by
 let#[h1,h2,h3]:=Z7 j h;show(SetTable.insertAt xs (SetTable.below xs j) j).toList.Pairwise (· < ·);rw[SetTable.toList_insertAt,fK];have tk:∀a∈xs.toList.take (SetTable.below xs j),a<j:=λa ha=>by
  let#[i,hi,e]:=dq.mp ha;rw[bG] at hi;have hs:i<xs.size:=by omega
  have:=h2 i ()
  simp_all
 have dp:∀b∈xs.toList.drop (SetTable.below xs j),j<b:=λb hb=>by
  let#[i,hi,e]:=dq.mp hb;have hs:SetTable.below xs j+i<xs.size:=by grind
  have:=h3 (SetTable.below xs j+i) () hs;rw[<- fC (h:=hs)] at this;have fM:b≠j:=λz=>hj (by rw[<- z];exact List.mem_of_mem_drop hb);simp at e;omega
 refine#[h.take,cU.mpr #[dp,h.drop],λa ha b hb=>?_];have lQ:=tk a ha
 grind
def a81(n:Nat):kn (Array.range n):=by
 show(Array.range n).toList.Pairwise (· < ·);rw[Array.toList_range];exact vf
structure Well(L:Bool)(t:SetTable):Prop where
 yC:kn t.place
 DE:t.dummies=(List.toArray [])
 led:t.led=L
def Vk(hd:t.dummies=(List.toArray []))(j:Nat):t.slot j≠.dummy:=by
 unfold SetTable.slot;dsimp only;split
 ·simp
 ·rw[hd];split
  ·rename_i z;simp[SetTable.has] at z
  simp
def LH{t}(hd:t.dummies=(List.toArray [])){hashAt}{h}:∀(fuel:Nat) (p:SetTable.Probe) {j:Nat} {dm:Option Nat},p.dummy=none->SetTable.probe.go t hashAt h fuel p=some (.empty j dm)->t.slot j=.empty/\dm=none
 |0,p,j,dm,_,e=>by simp[SetTable.probe.go] at e
 |fuel+1,p,j,dm,hp,e=>by
  unfold SetTable.probe.go at e;have ad:∀q:SetTable.Probe,q.dummy=none->(t.advance q).dummy=none:=λq hq=>by
   unfold SetTable.advance;split
   ·exact hq
   ·exact hq
  split at e
  ·simp_all
  ·rename_i hs;exact absurd hs (Vk hd _)
  ·split at e
   ·cases e
   ·exact LH hd fuel _ (ad p hp) e
def WK(hd:t.dummies=(List.toArray [])){h}{wd}(e:t.freeSlot h=some (j,wd)):t.slot j=.empty/\wd=false:=by
 unfold SetTable.freeSlot at e;split at e
 ·rename_i j' dm hp;let#[h1,h2]:=LH hd _ _ rfl hp;subst h2;cases e;exact#[h1,rfl]
 ·cases e
def R9(h:Well L t)(n:Nat):Well L (t.standIn n):=#[a81 n,rfl,h.led]
def aS4{h}(hw:Well L t):Well L (layNew t es h x).2.1/\(layNew t es h x).2.2.1=false:=by
 unfold layNew;split
 ·rename_i slot wd e;let#[h1,h2]:=WK hw.DE e;refine#[?_,h2];have hd:SetTable.has t.dummies slot=false:=by rw[hw.DE];rfl
  have w2:Well L (t.put slot).1:=#[a05 hw.yC (a02 hw.yC h1),by simp only[SetTable.put,hd];exact hw.DE,hw.led]
  dsimp only;unfold SetTable.orStandIn;split
  ·exact w2
  ·exact R9 w2 _
 ·exact#[R9 hw _,rfl]
def WX{mask finger moves}{led plain}{hashes}{o}(hl:led=L)(e:SetTable.laid mask finger moves led plain hashes=some (t,o)):Well L t:=by
 unfold SetTable.laid at e;cases ho:SetTable.layClean mask hashes with
 |none=>rw[ho] at e;cases e
 |some owner =>
  rw[ho] at e;simp only[Option.bind_eq_bind,Option.bind_some,Option.pure_def,Option.some.injEq,Prod.mk.injEq] at e;let#[rfl,_]:=e;refine#[?_,rfl,hl];show(List.map _ _).toArray.toList.Pairwise (· < ·);rw[List.toList_toArray];have sub:((List.range (mask+1)).filterMap λj=>(owner.getD j none).map (j,·)).map (·.1) |>.Sublist (List.range (mask+1)):=by
   generalize List.range (mask+1)=l
   induction l with
   |nil=>simp
   |cons a r ih =>
    rw[eI];cases owner.getD a none with
    |none=>exact ih.cons a
    |some k=>exact ih.cons_cons a
  exact iR sub vf
def aG4(hw:Well L t):Well L (relayAll t es n).2.1:=by
 unfold relayAll;split
 ·rename_i t' order e;dsimp only;split
  ·exact WX hw.led e
  ·exact R9 hw _
 ·exact R9 hw _
abbrev toI:Value->Int
 |.int k _=>k
 |_=>0
abbrev Led(w:World):Bool:=!(w.params.followText "set-order")
abbrev w9(prog:Program)(w:World)(h:Heap)(a:Addr)(ks:List Int):Prop :=
 ∃o es ep t,h.get? a=some o/\o.ExactSet/\o.data=.set es ep t/\ElemsOf (intKind prog w) es.toList/\(es.toList.map λe=>toI e.2).Perm ks/\ks.Nodup/\es.size<scanBound/\t.fits es.size=true/\Well (Led w) t
def w9.at(x:w9 prog w h a ks)(k:∀o,h.get? a=some o->h'.get? a=some o):w9 prog w h' a ks:=by
 let#[o,es,ep,t,e,r]:=x;exact#[o,es,ep,t,k o e,r]
def zx{e}{es}(h:ElemsOf (intKind prog w) es)(he:e∈es):∃tk,e.2=.int (toI e.2) tk/\e.1=(intKind prog w).hash (toI e.2):=by
 let#[#[k,h1,h2],_]:=h e he;let#[t,ht]:=Value.isInt_shape (k:=k) (v:=e.2) h1;refine#[t,by rw[ht];rfl,?_];rw[h2,ht]
 rfl
def JZ{e}{es}(h:ElemsOf (intKind prog w) es)(he:e∈es)(k:Int):(intKind prog w).is k e.2=decide (toI e.2=k):=by
 let#[t,ht,_]:=zx h he;rw[ht]
 rfl
def w9.mem{a:Addr}{es:List (Int×Value)}(h:ElemsOf (intKind prog w) es)(hp:(es.map λe=>toI e.2).Perm ks)(k:Int):(es.findIdx? λe=>(intKind prog w).is k e.2).isSome=decide (k∈ks):=by
 rw[bf,cK,<- hp.mem_iff,ao,eP];constructor
 ·rintro⟨i,hi⟩;let#[h1,h2,_]:=km.mp hi;have hm:=cj h1;rw[JZ h hm] at h2;exact#[_,hm,aM h2]
 ·rintro⟨e,he,rfl⟩;cases hf:es.findIdx? λe'=>(intKind prog w).is (toI e.2) e'.2 with
  |some i=>exact#[i,rfl]
  |none =>
   have:=List.findIdx?_eq_none_iff.mp hf e he;rw[JZ h he] at this;simp at this
abbrev I9(ks:List Int)(k:Int):List Int:=if k∈ks then ks else ks++[k]
def Uv(ks:List Int)(k:Int):(I9 ks k).length<=ks.length+1:=by unfold I9;split<;>simp
def Je{k}{tk}{Q}(hS:w9 prog w s.heap a ks)(hr:ks.length+1<scanBound)(h:∀h' b,Heap.SameBut a s.heap h'->w9 prog w h' a (I9 ks k)->Q b { s with heap:=h' }):wpAny (model prog w) A (setAddHashed a (.int k tk) ((intKind prog w).hash k)) Q E s:=by
 let#[o,es,ep,t,ho,hx,hd,mX,hp,hn,hb,hf,hw]:=hS;have hlen:es.size=ks.length:=by rw[<- hp.length_eq];simp
 have lO:(intKind prog w).is k (.int k tk)=true:=eO _ _ _ _;have gv:∀(b:Bool) (s1:Shared) (Q':Unit->Shared->Prop),Q' Unit.unit s1->wpAny (model prog w) A (match b with|true=>rule "set.scan.the-table-gave-way"|false=>pure Unit.unit) Q' E s1:=λb s1 Q' q=>by
  cases b
  ·exact ak q
  ·exact gf q
 refine bB (ae (cH ho hd hf ?_));dsimp only;rw[byScan_of rfl hb mX,aH rfl];refine ae (ae (gf (ae (wpAny_setScan_of lO ho hd hf mX ?_))));have hm:=w9.mem (a:=a) mX hp k;cases nT:es.toList.findIdx? (λe=>(intKind prog w).is k e.2) with
 |some j =>
  have hk:k∈ks:=by simp_all
  refine ak (ak ?_);refine h s.heap _ (Heap.SameBut.refl a s.heap) ?_;unfold I9;rw[aH hk];exact#[o,es,ep,t,ho,hx,hd,mX,hp,hn,hb,hf,hw]
 |none =>
  rw[nT] at hm;have hk:k∉ks:=by simpa using hm.symm
  have p1:=layNew_perm t es ((intKind prog w).hash k) (.int k tk);have f1:=layNew_fits t es ((intKind prog w).hash k) (.int k tk);let#[w1,Hi]:=aS4 (es:=es) (h:=(intKind prog w).hash k) (x:=.int k tk) hw;generalize layNew t es ((intKind prog w).hash k) (.int k tk)=R1 at p1 f1 w1 Hi ⊢;let#[hV,t1,wd,Sl]:=R1;subst Hi;rw[Array.toList_push] at p1;have IM:ElemsOf (intKind prog w) hV.toList:=(mX.push lO rfl).perm p1;have sz1:hV.size=es.size+1:=by rw[<- eJ,p1.length_eq];simp
  have k1:(hV.toList.map λe=>toI e.2).Perm (I9 ks k):=by
   unfold I9;rw[az hk];refine(p1.map _).trans ?_;rw[bE];exact hp.append_right _
  have n1:(I9 ks k).Nodup:=by
   unfold I9;rw[az hk,dn];exact#[hn,by simp,λx hx y hy=>by grind]
  refine ae (gv _ _ _ ?_);have fin:∀ (t2:SetTable),t2.fits hV.size=true->Well (Led w) t2->wpAny (model prog w) A (do
    storeSet a hV t2
    if(!false&&t2.tooFull)=true then do
      (match(relayAll t2 hV (SetTable.grown hV.size)).2.2 with|true=>rule "set.scan.the-table-gave-way"|false=>pure Unit.unit)
      storeSet a (relayAll t2 hV (SetTable.grown hV.size)).1 (relayAll t2 hV (SetTable.grown hV.size)).2.1
      pure (some true)
     else pure (some true)) (λr s'=>wpAny (model prog w) A (match r with | some added=>pure added | none=>setAddHashedIn a (.int k tk) ((intKind prog w).hash k) 99999) Q E s') E s:=λt2 f2 w2=>by
   have g1:(s.heap.update a (Obj.putSet hV t2)).get? a=some { o with data:=.set hV (ep+1) t2 }:=by
    have:=bc (Obj.putSet hV t2) ho (by rw[putSet_of hV t2 hd];rfl);rw[putSet_of hV t2 hd] at this;exact this
   refine ae (wpAny_storeSet_of ho hd ?_ (fits_of_scanBound ()));have Ht:=cy s.heap a (Obj.putSet hV t2);split
   ·have p2:=relayAll_perm t2 hV (SetTable.grown hV.size);have f3:=relayAll_fits t2 hV (SetTable.grown hV.size);have w3:=aG4 (es:=hV) (n:=SetTable.grown hV.size) w2;generalize relayAll t2 hV (SetTable.grown hV.size)=R2 at p2 f3 w3 ⊢;let#[wQ,t3,gv2]:=R2;dsimp only at p2 f3 w3 ⊢;have sz2:wQ.size=hV.size:=by rw[<- eJ,p2.length_eq,eJ]
    refine ae (gv _ _ _ ?_);refine ae (wpAny_storeSet_of g1 rfl ?_ (fits_of_scanBound ()));refine ak (ak (h _ _ (Ht.trans (cy _ a _)) ?_));have g2:((s.heap.update a (Obj.putSet hV t2)).update a (Obj.putSet wQ t3)).get? a=some { o with data:=.set wQ (ep+1+1) t3 }:=by
     have:=bc (Obj.putSet wQ t3) g1 (by rfl);exact this
    exact#[_,wQ,_,t3,g2,hx,rfl,IM.perm p2,(p2.map _).trans k1,n1,by omega,f3,w3]
   ·exact ak (ak (h _ _ Ht #[_,hV,_,t2,g1,hx,rfl,IM,k1,n1,by omega,f1 |> λ_=>f2,w2]))
  split
  ·refine ae (eN (hashByValue_scannable 8 rfl) ?_);exact fin _ f1 w1
  ·refine ae (ak ?_);exact fin _ f1 w1
def aP2:entryFor table "set.__iter__"=some Builtin.«frozenset.__iter__» :=
 AK (id':="frozenset.__iter__") (by kernel_rfl) rfl #[] (by kernel_rfl)
def J8:Slot "set_iterator" "__next__" "set_iterator.__next__" :=
 .of (owner:="set_iterator") (n:="__next__") (by rw[typeLookup_type,builtinLookup_eq_fast];kernel_rfl) #[] #[] #[]
  (by first|exact .inl #[]|exact .inr #[]) (by rw[ku];kernel_rfl)
def Ls:entryFor table "set_iterator.__next__"=some Builtin.«set_iterator.__next__»:=entryFor_of_tree (by kernel_rfl)
def LK(a:Value):argsOk "set_iterator.__next__" #[[a],[]]:=by
 unfold argsOk
 kernel_rfl
def LR:Slot "set_iterator" "__iter__" "set_iterator.__iter__" :=
 .of (owner:="set_iterator") (n:="__iter__") (by rw[typeLookup_type,builtinLookup_eq_fast];kernel_rfl) #[] #[] #[]
  (by first|exact .inl #[]|exact .inr #[]) (by rw[ku];kernel_rfl)
def aS8:entryFor table "set_iterator.__iter__"=some Builtin.«dict_keyiterator.__iter__» :=
 AK (id':="dict_keyiterator.__iter__") (by kernel_rfl) rfl #[] (by kernel_rfl)
def aR0(a:Value):argsOk "set_iterator.__iter__" #[[a],[]]:=by
 unfold argsOk
 kernel_rfl
inductive Rd|text|plain|drawn
structure Lies(h:Heap)(a:Addr)(es:Array (Int×Value))(ep:Nat)(t:SetTable):Prop where
 at_:∃o,h.get? a=some o/\o.cls=.type "set"/\o.data=.set es ep t
 fit:t.fits es.size=true
def Lies.at(x:Lies h a es ep t)(k:∀o,h.get? a=some o->h'.get? a=some o):Lies h' a es ep t :=
 #[let ⟨o,e,r⟩:=x.at_;#[o,k o e,r],x.fit]
abbrev K7(h:Heap)(I a:Addr)(f:Value)(i n ep:Nat):Prop:=∃o,h.get? I=some o/\o.cls=.type "set_iterator"/\o.data=.fields (List.toArray [f,rawInt i,.ref a,rawInt n,rawInt ep])
def K7.at(x:K7 h I a f i n ep)(k:∀o,h.get? I=some o->h'.get? I=some o):K7 h' I a f i n ep:=let ⟨o,e,r⟩:=x;#[o,k o e,r]
def K7.ty(x:K7 s.heap I a f i n ep):s.TypeIs (.ref I) "set_iterator":=let ⟨o,e,c,_⟩:=x;#[o,e,c]
abbrev xl(w:World)(a:Addr)(es:Array (Int×Value))(ep:Nat)(pl:List Nat):Rd->List Value
 |.text=>(pickOrder (w.params.setOrder a ep) es).toList.map (·.2)
 |.plain=>es.toList.map (·.2)
 |.drawn=>pl.map λj=>(es.getD j (0,.none)).2
abbrev slotAt(t:SetTable):Nat->Nat
 |0=>0
 |i+1=>t.place.getD i 0+1
abbrev V6(h:Heap)(t:SetTable)(b:Addr)(pl:List Nat)(i:Nat)(f:Value):Rd->Prop
 |.text=>∃k:Nat,f=rawInt k
 |.plain=>f=rawInt (slotAt t i)
 |.drawn=>f=.ref b/\∃o e,h.get? b=some o/\o.cls=.type "tuple"/\o.data=.seq (pl.map λj=>rawInt (j:Nat)).toArray e
abbrev uO(w:World)(es:Array (Int×Value))(t:SetTable)(pl:List Nat):Rd->Prop
 |.text=>w.params.followText "set-order"=true
 |.plain=>w.params.followText "set-order"=false/\(t.plain=true\/es.size<=1)/\Well true t
 |.drawn=>w.params.followText "set-order"=false/\pl.Perm (List.range es.size)
def xt{Q}(h:Q (w.params.followText "set-order") s):wpAny (model prog w) A setsByText Q E s:=by
 exact ae (rj (ak h))
def Ol(hL:Lies s.heap a es ep t)(ht:w.params.followText "set-order"=true){sl g}{Q}(h:Q (((pickOrder (w.params.setOrder a ep) es)[g]?).map λe=>(e.2,sl)) s) :
  wpAny (model prog w) A (setNext a sl g ep) Q E s:=by
 let#[o,ho,_,hd]:=hL.at_;refine ae (cH ho hd hL.fit ?_);refine ae (xt ?_);rw[ht,aH rfl,az #[_]];refine ae (ae (cH ho hd hL.fit ?_));refine ae (xt ?_);rw[ht,aH rfl];exact ae (rj (ak (ak h)))
def Le(hL:Lies s.heap a es ep t)(ht:w.params.followText "set-order"=false)(hp:t.plain=true\/es.size<=1)(hl:t.led=true){sl g}{Q}(h:Q (match es[SetTable.below t.place sl]?,t.place[SetTable.below t.place sl]? with|some (_,x),some j=>some (x,j+1)|_,_=>none) s):wpAny (model prog w) A (setNext a sl g ep) Q E s:=by
 let#[o,ho,_,hd]:=hL.at_;refine ae (cH ho hd hL.fit ?_);refine ae (xt ?_);rw[ht,az ∅];change wpAny _ _ (if(!t.plain&&decide (es.size>1))=true then _ else _) _ _ _;rw[az (by rcases hp with e|e<;>simp[e])];refine ae (eN (a:=Unit.unit) ?_ (ak h));show((if(!t.led&&!es.isEmpty)=true then unsupported "set:maker-not-led" else pure Unit.unit):Sem Unit)=pure Unit.unit;rw[hl]
 rfl
def a13(hL:Lies s.heap a es ep t)(hj:j<es.size)(h:Q (es.getD j (0,.none)).2 s):wpAny (model prog w) A (setNextDrawn a j ep) Q E s:=by
 let#[o,ho,_,hd]:=hL.at_;refine ae (cH ho hd hL.fit ?_);dsimp only;rw[az #[_]];have e:es[j]?=some (es.getD j (0,.none)):=by simp_all
 rw[e];exact ak h
def NK(hL:Lies s.heap a es ep t):t.place.size=es.size:=by
 have:=hL.fit;unfold SetTable.fits at this;simp at this;exact this.1
def KJ(hw:kn t.place)(hi:i<=t.place.size):SetTable.below t.place (slotAt t i)=i:=by
 cases i with
 |zero=>exact a44 hw
 |succ i=>exact a45 hw ()
def entries{Q}(hL:Lies s.heap a es ep t)(h:Q es s):wpAny (model prog w) A (setEntries a) Q E s:=by
 let#[o,ho,_,hd]:=hL.at_;exact ae (cH ho hd hL.fit (ak h))
def b96{f'}(hi:K7 h I a f i n ep)(hx:x=rawInt ((i:Int)+1)):K7 ((h.update I (Obj.mapFields (·.setIfInBounds 0 f'))).update I (Obj.mapFields (·.setIfInBounds 1 x))) I a f' (i+1) n ep:=by
 let#[o,ho,hc,hd]:=hi;have h1:=bc (Obj.mapFields (·.setIfInBounds 0 f')) ho (du (bC hd _));have d1:(Obj.mapFields (·.setIfInBounds 0 f') o).data=.fields (List.toArray [f',rawInt i,.ref a,rawInt n,rawInt ep]):=by rw[bC hd];simp
 have h2:=bc (Obj.mapFields (·.setIfInBounds 1 x)) h1 (du (bC d1 _));refine#[_,h2,(oO ..).trans ((oO ..).trans hc),?_];rw[bC d1]
 simp_all
def b97(hi:K7 h I a f i n ep)(hx:x=rawInt ((i:Int)+1)):K7 (h.update I (Obj.mapFields (·.setIfInBounds 1 x))) I a f (i+1) n ep:=by
 let#[o,ho,hc,hd]:=hi;have h2:=bc (Obj.mapFields (·.setIfInBounds 1 x)) ho (du (bC hd _));refine#[_,h2,(oO ..).trans hc,?_];rw[bC hd];subst hx;simp[rawInt]
def Kz{f'}{m}{Q':α->Shared->Prop}(hi:K7 s.heap I a f i n ep)(hx:x=rawInt ((i:Int)+1))(h:∀h',K7 h' I a f' (i+1) n ep->Heap.SameBut I s.heap h'->wpAny (model prog w) A m Q' E { s with heap:=h' }) :
  wpAny (model prog w) A (do setField (.ref I) 0 f';setField (.ref I) 1 x;m) Q' E s:=by
 let#[o,ho,hc,hd]:=id hi;refine ae (dJ ho hd #[_] ?_);have h1:=bc (Obj.mapFields (·.setIfInBounds 0 f')) ho (du (bC hd _));have d1:(Obj.mapFields (·.setIfInBounds 0 f') o).data=.fields (List.toArray [f',rawInt i,.ref a,rawInt n,rawInt ep]):=by rw[bC hd];simp
 refine ae (dJ (s:={ s with heap:=_ }) h1 d1 #[_] ?_);exact h _ (b96 hi hx) ((cy ..).trans (cy ..))
def b60{m}{Q':α->Shared->Prop}(hi:K7 s.heap I a f i n ep)(hx:x=rawInt ((i:Int)+1))(h:∀h',K7 h' I a f (i+1) n ep->Heap.SameBut I s.heap h'->wpAny (model prog w) A m Q' E { s with heap:=h' }) :
  wpAny (model prog w) A (do setField (.ref I) 1 x;m) Q' E s:=by
 let#[o,ho,hc,hd]:=id hi;refine ae (dJ ho hd #[_] ?_);exact h _ (b97 hi hx) (cy ..)
def Er(next:Nat->Nat)(xs:Array α):(pickOrder next xs).toList.Perm xs.toList:=by
 have go:∀(fuel k:Nat) (left:List α) (out:Array α),fuel=left.length->(pickOrder.go next fuel k left out).toList.Perm (out.toList++left):=by
  intro fuel
  induction fuel with
  |zero =>
   intro k left out e;have:left=[]:=bH e.symm;subst this;simp[pickOrder.go]
  |succ n ih =>
   intro k left out e;have dO:next k % left.length<left.length:=Nat.mod_lt _ ()
   unfold pickOrder.go;rw[au dO];refine(ih _ _ _ (by rw[oP dO];omega)).trans ?_;rw[Array.toList_push,gL];refine List.Perm.append_left _ ?_;have:left.Perm (left[next k % left.length]::left.eraseIdx (next k % left.length)):=by
    rw[kY]
    conv=>lhs;rw[<- iQ (next k % left.length) left,eA dO]
    exact List.perm_middle
   exact this.symm
 have:=go xs.size 0 xs.toList (List.toArray []) #[_];simpa[pickOrder] using this
def next_item{Q}(hL:Lies s.heap a es ep t)(hr:uO w es t pl r)(hi:K7 s.heap I a f i es.size ep)(hf:V6 s.heap t b pl i f r)(fM:b≠I)(dO:i<es.size)(h:∀v h' f',(xl w a es ep pl r)[i]?=some v->K7 h' I a f' (i+1) es.size ep->V6 h' t b pl (i+1) f' r->Heap.SameBut I s.heap h'->Q (some v) { s with heap:=h' }):wpAny (model prog w) A (pyNext (.ref I)) Q E s:=by
 let#[o,ho,hc,hd]:=id hi;refine ae (wpAny_attempt (fB (name:=Str.ofString "__next__") hi.ty J8 (bS J8 hi.ty Ls ?_ (LK _))));refine ae (ak ?_);refine ae (wpAny_fieldsOf ho hd ?_);refine ae (entries hL ?_);rw[az #[_]];rw[dX,dX];cases r with
 |text =>
  let#[k,rfl]:=hf;refine ae (Ol hL hr ?_);have hl:i<(pickOrder (w.params.setOrder a ep) es).size:=by
   have:=(Er (w.params.setOrder a ep) es).length_eq
   simp_all
  rw[qa hl];refine Kz hi rfl λh' h1 h2=>ak #[_,rfl,ak (h _ _ _ ?_ h1 #[_,rfl] h2)];show((pickOrder (w.params.setOrder a ep) es).toList.map (·.2))[i]?=_;simp[hl]
 |plain =>
  let#[r1,r2,r3]:=hr;have hs:=NK hL;obtain rfl:=hf;dsimp only[rawInt];rw[dX];refine ae (Le hL r1 r2 r3.led ?_);rw[KJ r3.yC (),qa dO,getD_mem ()];refine Kz hi rfl λh' h1 h2=>ak #[_,rfl,ak (h _ _ _ ?_ h1 rfl h2)];show(es.toList.map (·.2))[i]?=_;simp[dO]
 |drawn =>
  let#[r1,r2]:=hr;let#[rfl,ob,e,hb,Im,yV]:=hf;have gC:i<pl.length:=by rw[r2.length_eq];simpa using dO
  refine ae (wpAny_seqItems hb yV ?_);have hj:pl[i]<es.size:=by
   have:=r2.mem_iff.mp (cj gC)
   simp_all
  have e1:(pl.map λj=>rawInt (j:Nat)).toArray[i]?=some (rawInt (pl[i]:Nat)):=by simp[gC]
  dsimp only;rw[e1];refine ae (a13 hL hj ?_);refine b60 hi rfl λh' h1 h2=>ak #[_,rfl,ak (h _ _ _ ?_ h1 #[rfl,ob,e,by rw[h2.2 b fM];exact hb,Im,yV] h2)];show(pl.map λj=>(es.getD j (0,.none)).2)[i]?=_;simp[gC]
def Es{Q}{h0}(hh:A.handled=none)(Se:Heap.ExtBut I h0 s.heap)(h:∀h',Heap.ExtBut I h0 h'->Q none { s with heap:=h' }) :
  wpAny (model prog w) A.in1 (newExc (.type "StopIteration") [] >>= λe=>(raiseNew e:Sem Fin)) (λfin s'=>∃v,fin=Fin.done (Flow.ret v)/\wpAny (model prog w) A (pure (some v)) Q E s')
   (λe s'=>wpAny (model prog w) A (do
     let x <- isInstance e (Value.type "StopIteration")
     if x=true then pure none else throw e) Q E s') s:=by
 refine ae ?_;refine ae (bW ?_ (by size_fits));refine ae (m:=firstArgMember _ _) (eN (a:=Value.none) (by rfl) ?_);refine bW ?_ (by size_fits);refine ae (wpAny_handled ?_);rw[show A.in1.handled=none from hh];refine ae (ak (wpAny_throw ?_));refine ae (gg (T:="StopIteration") (b:=true) #[_,aB _ rfl,rfl] isSubtype_stop ?_);exact ak (h _ ((Se.push _).push _))
def next_end{Q}(hh:A.handled=none)(hL:Lies s.heap a es ep t)(hr:uO w es t pl r)(hi:K7 s.heap I a f es.size es.size ep)(hf:V6 s.heap t b pl es.size f r)(fM:b≠I)(h:∀h',Heap.ExtBut I s.heap h'->Q none { s with heap:=h' }):wpAny (model prog w) A (pyNext (.ref I)) Q E s:=by
 let#[o,ho,hc,hd]:=id hi;refine ae (wpAny_attempt (fB (name:=Str.ofString "__next__") hi.ty J8 (bS J8 hi.ty Ls ?_ (LK _))));refine ae (ak ?_);refine ae (wpAny_fieldsOf ho hd ?_);refine ae (entries hL ?_);rw[az #[_]];rw[dX,dX];cases r with
 |text =>
  let#[k,rfl]:=hf;refine ae (Ol hL hr ?_);have hl:(pickOrder (w.params.setOrder a ep) es).size<=es.size:=by
   have:=(Er (w.params.setOrder a ep) es).length_eq
   grind
  rw[vh hl];refine ae (dJ ho hd #[_] ?_);exact Es (s:={ s with heap:=_ }) hh (cy ..).extBut h
 |plain =>
  let#[r1,r2,r3]:=hr;have hs:=NK hL;obtain rfl:=hf;dsimp only[rawInt];rw[dX];refine ae (Le hL r1 r2 r3.led ?_);rw[KJ r3.yC (),vh (av _)];refine ae (dJ ho hd #[_] ?_);exact Es (s:={ s with heap:=_ }) hh (cy ..).extBut h
 |drawn =>
  let#[r1,r2]:=hr;let#[rfl,ob,e,hb,Im,yV]:=hf;have gC:pl.length=es.size:=by rw[r2.length_eq];simp
  refine ae (wpAny_seqItems hb yV ?_);have e1:(pl.map λj=>rawInt (j:Nat)).toArray[es.size]?=none:=by simp[gC]
  dsimp only;rw[e1];refine ae (dJ ho hd #[_] ?_);have h1:=bc (Obj.mapFields (·.setIfInBounds 0 (Value.int 0 0))) ho (du (bC hd _));refine ae (dJ (s:={ s with heap:=_ }) h1 (bC hd _) #[_] ?_);exact Es (s:={ s with heap:=_ }) hh ((cy ..).trans (cy ..)).extBut h
def a90{l:List α}(dO:k<l.length):(l[k]::l.eraseIdx k).Perm l:=by
 rw[kY]
 conv=>rhs;rw[<- iQ k l,eA dO]
 exact List.perm_middle.symm
def KU{α:Type}:∀(n:Nat) (xs:List α) (s:Shared) (Q:List α->Shared->Prop),n=xs.length->(∀ys d,ys.Perm xs->Q ys { s with drawn:=d })->wpAny (model prog w) A (drawOrder n xs) Q E s
 |0,xs,s,Q,e,h=>by
  have:xs=[]:=bH e.symm;subst this;exact ak (h [] s.drawn (List.Perm.refl _))
 |n+1,[],s,Q,e,h=>by simp at e
 |n+1,x::xs,s,Q,e,h=>by
  refine ae ?_;intro Γ p hΓ;refine#[by simp,?_];generalize (model prog w).w.draws .order (s.drawn.get .order)=k;have dO:k % (x::xs).length<(x::xs).length:=Nat.mod_lt _ #[_];have go:wpAny (model prog w) A (match (x :: xs)[k % (x :: xs).length]? with
   |some y=>do
    let ys <- drawOrder n ((x::xs).eraseIdx (k % (x::xs).length))
    pure (y::ys)
   | none=>unsupported "internal:drawOrder") Q E { s with drawn:=s.drawn.bump .order }:=by
   rw[au dO];refine ae (KU n _ _ _ (by rw[oP dO];omega) λys d hp=>ak ?_);exact h _ d ((List.Perm.cons _ hp).trans (a90 dO))
  exact go
def Nw(hr:uO w es t pl r):(xl w a es ep pl r).Perm (es.toList.map (·.2)):=by
 cases r with
 |text=>exact(Er _ es).map _
 |plain=>rfl
 |drawn =>
  refine(hr.2.map _).trans ?_;have:(List.range es.size).map (λj=>(es.getD j (0,.none)).2)=es.toList.map (·.2):=by
   apply List.ext_getElem
   ·simp
   simp_all
  rw[this]
def Lies.ty(hL:Lies s.heap a es ep t):s.TypeIs (.ref a) "set":=let ⟨o,e,c,_⟩:=hL.at_;#[o,e,c]
def VZ(hL:Lies s.heap a es ep t)(hw:Well (Led w) t)(hz:es.size<=10000)(h:∀r pl b f I h' d',uO w es t pl r->K7 h' I a f 0 es.size ep->V6 h' t b pl 0 f r->b≠I->(b=a\/s⁻¹<=b)->(∀c o,s.heap.get? c=some o->h'.get? c=some o)->s⁻¹<=I->s⁻¹<=h'.objs.size->Q (.ref I) { s with heap:=h',drawn:=d' }) :
  wpAny (model prog w) A (pyIter (.ref a)) Q E s:=by
 let#[o,ho,BP,hd]:=hL.at_;refine oJ hL.ty F.slot_set_iter (bS F.slot_set_iter hL.ty aP2 ?_ (F.args_set_iter_1 _));refine ae (ak ?_);refine ae (ae (entries hL (ak ?_)));refine ae (ae (cH ho hd hL.fit ?_));refine ae (xt (ak ?_));have dO:=aC ho;have fin:∀(r:Rd) (f:Value) (b:Addr) (pl:List Nat) (h1:Heap) (d1:Drawn),uO w es t pl r->(∀h',(∀c o,h1.get? c=some o->h'.get? c=some o)->V6 h' t b pl 0 f r)->b<h1.objs.size->(b=a\/s⁻¹<=b)->(∀c o,s.heap.get? c=some o->h1.get? c=some o)->s⁻¹<=h1.objs.size ->
   wpAny (model prog w) A.in1 (do
    let e <- setEpoch a
    ret (<- newFields "set_iterator" [f,rawInt 0,.ref a,rawInt es.size,rawInt e])) (λfin s'=>∃ v,fin=Fin.done (Flow.ret v)/\∃ T' r,s'.TypeIs v T'/\typeLookup (.type T') "__next__"=pure (some r)/\Q v s') E { s with heap:=h1,drawn:=d1 }:=λr f b pl h1 d1 hr hf hb Ci he hsz=>by
  have oa:Lies h1 a es ep t:=hL.at λo e=>he a o e;let#[o1,QQ,_,Il]:=oa.at_;refine ae (ae (cH (s:={ s with heap:=h1,drawn:=d1 }) QQ Il oa.fit (ak ?_)));refine ae (bW (ak #[_,rfl,"set_iterator",_,#[_,aB _ rfl,rfl],J8.lookup,?_]));refine h r pl b f h1.objs.size _ d1 hr #[_,aB _ rfl,rfl,rfl] (hf _ λc o e=>aj _ e) (aN hb) Ci (λc o e=>aj _ (he c o e)) hsz (by rw[size_push'];exact kA hsz)
 cases hT:w.params.followText "set-order" with
 |true =>
  refine ae (ak ?_);exact fin .text (rawInt 0) a [] s.heap s.drawn hT (λh' _=>#[0,rfl]) dO (.inl rfl) (λc o e=>e) (av _)
 |false =>
  change wpAny _ _ (if(!false&&(!t.plain&&decide (es.size>1)))=true then _ else _ ) _ _ _;by_cases hp:t.plain=true\/es.size<=1
  ·rw[az (by rcases hp with e|e<;>simp[e])];refine ae (ak ?_);refine fin .plain (rawInt 0) a [] s.heap s.drawn #[hT,hp,?_] (λh' _=>rfl) dO (.inl rfl) (λc o e=>e) (av _);have:Led w=true:=by unfold Led;rw[hT];rfl
   simp_all
  ·rw[aH (by grind)];refine ae (KU _ _ _ _ (List.length_range).symm λys d hy=>?_);have hl:ys.length=es.size:=by rw[hy.length_eq];simp
   refine ae (bW ?_ (by show(List.map _ ys).toArray.size<=sizeLine;rw[aQ,ai,hl];exact aD hz ∅));refine fin .drawn (.ref s⁻¹) s⁻¹ ys _ d #[hT,hy] (λh' hk=>#[rfl,_,_,hk _ _ (aB _ rfl),rfl,rfl]) #[_] (.inr (av _)) (λc o e=>aj _ e) #[_]
def a75(hh:A.handled=none)(hr:uO w es t pl r)(fM:b≠I)(QT:a≠I) :
  Walks prog w A I [I,a,b] [I] es.size (λi v=>(xl w a es ep pl r)[i]?=some v) (λi h=>Lies h a es ep t/\∃f,K7 h I a f i es.size ep/\V6 h t b pl i f r) where
 sub:=λc hc=>by simp_all
 frame:=λi h h' st hk=>by
  let#[hL,f,hi,hf]:=st;refine#[hL.at λo e=>hk a #[_] o e,f,hi.at λo e=>hk I #[_] o e,?_];cases r with
  |text=>exact hf
  |plain=>exact hf
  |drawn =>
   let#[e1,o,e,h1,h2]:=hf;exact#[e1,o,e,hk b #[_] o h1,h2]
 item:=λi s Q E hi st hQ=>by
  let#[hL,f,hI,hf]:=st;exact next_item hL hr hI hf fM hi λv h' f' hv h1 h2 h3=>hQ v h' s.toks hv #[hL.at λo e=>by rw[h3.2 a QT];exact e,f',h1,h2] λc o hc e=>h3.extBut c o (λz=>hc (by simp[z])) e
 done:=λs Q E st hQ=>by
  let#[hL,f,hI,hf]:=st;exact next_end hh hL hr hI hf fM λh' he=>hQ h' s.toks λc o hc e=>he c o (λz=>hc (by simp[z])) e
 self:=λi s Q E st hQ=>by
  let#[hL,f,hI,hf]:=st;refine oJ hI.ty LR (bS LR hI.ty aS8 ?_ (aR0 _));exact ae (ak (ak #[_,rfl,"set_iterator",_,hI.ty,J8.lookup,hQ]))
def aN9:typeLookup (.type "set") "__len__"=pure (some (.builtin "set.__len__")):=by rfl
def aR8(hh:A.handled=none)(hL:Lies s.heap a es ep t)(hw:Well (Led w) t)(hz:es.size<=10000){Q}(h:∀(vs:List Value) h' d' jv,vs.Perm (es.toList.map (·.2))->(∀c o,s.heap.get? c=some o->h'.get? c=some o)->s⁻¹<=h'.objs.size->s.toks<=jv->Q vs { s with heap:=h',drawn:=d',toks:=jv }) :
  wpAny (model prog w) A (collect (.ref a)) Q E s:=by
 have dO:a<s⁻¹:=let ⟨o,ho,_⟩:=hL.at_;aC ho
 refine ae (AJ (dy F.entry_proto_collect ?_));refine ae (bW ?_);refine ak #[gn F.plain_list_iadd _,dy F.entry_list_iadd ?_];have oa:Lies (s.heap.push { cls:=.type "list",data:=.seq ([]:List Value).toArray }) a es ep t:=hL.at λo e=>aj _ e;have Cs:(s.heap.push { cls:=.type "list",data:=.seq ([]:List Value).toArray }).get? s⁻¹=some { cls:=.type "list",data:=.seq ([]:List Value).toArray }:=aB _ rfl;have fM:s⁻¹≠a:=bI dO;have h1:Builtin.List.listSameRef (.ref s⁻¹) (.ref a)=false:=by simp[Builtin.List.listSameRef,fM]
 change wpAny _ A.in1 (Builtin.List.listExtendWith (.ref s⁻¹) (.ref a) (.ref s⁻¹)) _ _ _;refine ae (dB (Lies.ty (s:={ s with heap:=_ }) oa) ?_);rw[az (by rw[h1];decide)];refine ae (VZ (s:={ s with heap:=_ }) oa hw hz λr pl b f I h2 d2 hr hI hf hb Rz he Cv h2z=>?_);have pC:Lies h2 a es ep t:=oa.at λo e=>he a o e;have qx:=he _ _ Cs;refine ae (bB ?_);refine ae (wpAny_specialOf (Lies.ty (s:={ s with heap:=h2,drawn:=d2 }) pC) aN9 ?_);generalize wg:("set.__len__":String)=Bx;dsimp only;rw[show splitId Bx=some ("set","__len__") from by subst wg;decide +kernel];dsimp only;refine ae (gg (b:=true) (Lies.ty (s:={ s with heap:=h2,drawn:=d2 }) pC) (by rfl) ?_);rw[az ∅];subst wg;rw[aH #[]];refine ae (dB (Lies.ty (s:={ s with heap:=h2,drawn:=d2 }) pC) ?_);refine ak ?_;rw[aH #[]];refine ae (gf ?_);refine ae ?_;change wpAny _ A.in1 (updateSeq s⁻¹ (·.push .none) >>= λ_=>updateSeq s⁻¹ (·.pop)) _ _ _;refine ae (jP (s:={ s with heap:=h2,drawn:=d2 }) qx rfl ?_);have wA:=bc (Obj.mapSeq (·.push Value.none)) qx rfl;refine jP (s:={ s with heap:=_,drawn:=d2 }) wA rfl ?_;have Cr:=bc (Obj.mapSeq (·.pop)) wA rfl;have vz:∀c o,c≠s⁻¹->h2.get? c=some o->((h2.update s⁻¹ (Obj.mapSeq (·.push Value.none))).update s⁻¹ (Obj.mapSeq (·.pop))).get? c=some o :=
  λc o hc e=>(cw _ _ (aZ hc)).trans ((cw _ _ (aZ hc)).trans e)
 have la:s⁻¹<(s.heap.push { cls:=.type "list",data:=.seq ([]:List Value).toArray }).objs.size:=by simp
 have RH:I≠s⁻¹:=bI (ay la Cv);have hSb:b≠s⁻¹:=by
  rcases Rz with z|z
  ·rw[z];exact aZ fM
  ·exact bI (ay la z)
 have W:=(a75 (prog:=prog) (w:=w) (A:=A.in1) (a:=a) (b:=b) (I:=I) (es:=es) (ep:=ep) (t:=t) (pl:=pl) hh hr hb (aN (ay (cR dO la) Cv))).toS;have st:Lies h2 a es ep t/\∃f,K7 h2 I a f 0 es.size ep/\V6 h2 t b pl 0 f r:=#[pC,f,hI,hf]
 have jj:=W.frame 0 ({ s with heap:=h2,drawn:=d2 }:Shared) _ s.toks st (av _) λc hc o e=>vz c o (λz=>by simp at hc;rcases hc with y|y|y<;>simp_all) e;refine ak #[gn F.plain_extend_loop _,codeAny_extend_loopS W (aD hz ∅) _ (λz=>by simp at z;rcases z with y|y|y<;>simp_all) _ es.size 0 _ _ _ rfl (bO _) jj Cr (ItemsOf.nil _) λs' tD c' hm lA jr=>?_];change wpAny _ A (load s⁻¹ >>= _) _ _ s';refine ae (wpAny_load lA ?_);refine ak ?_;have eS:s'={ s with heap:=s'.heap,drawn:=d2,toks:=s'.toks }:=by
  let#[iu,g',d',jv,rO]:=s';have m1:g'=s.gens:=hm.gens;have m2:d'=d2:=hm.drawn;have m3:rO=s.os:=hm.os
  grind
 have eo:tD.toList=xl w a es ep pl r:=by
  have l1:(xl w a es ep pl r).length=es.size:=by rw[(Nw hr).length_eq];simp
  apply List.ext_getElem
  ·rw[l1];simpa using jr.1
  ·intro i h1 h2;have:=jr.2 i tD.toList[i] (by simp at h1 ⊢);dsimp only at this;rw[au h2] at this;exact(aG this).symm
 rw[eo,eS];refine h _ _ d2 s'.toks (Nw hr) (λc o e=>?_) (dk (aC lA)) hm.toks;have hc:c<s⁻¹:=aC e;have n1:c≠s⁻¹:=aN hc;have n2:c≠I:=aN (ay (cR hc la) Cv);exact hm.heap c o (by simp[n1,n2]) (vz c o n1 (he c o (aj _ e)))
def a00(hh:A.handled=none)(hS:w9 prog w s.heap a ks)(IC:ks.length<64)(h:∀(S:Addr) (vs:List Value) (ns:List Int) e h' d' jv,IntsAre vs ns->ns.Perm ks->ns.Pairwise (·<=·)->h'.get? S=some (seqObj "list" vs.toArray e)->s⁻¹<=S->(∀c o,s.heap.get? c=some o->h'.get? c=some o)->s.toks<=jv->Q (.ref S) { s with heap:=h',drawn:=d',toks:=jv }) :
  wpAny (model prog w) A (call (.builtin "sorted") [.ref a]) Q E s:=by
 let#[o,es,ep,t,ho,hx,hd,mX,hp,hn,hb,hf,hw]:=hS;have hL:Lies s.heap a es ep t:=#[#[o,ho,hx.1,hd],hf]
 have hz:es.size=ks.length:=by rw[<- hp.length_eq];simp
 refine iB kind_sorted plain_sorted entry_sorted (args_sorted1 _) ?_;unfold Builtin.«sorted»;refine ae (m:=checkCount "sorted" 1 1 _) (ak ?_);refine ae (aR8 (A:=A.in1) hh hL hw () λvs h1 d1 rB hv he la tV=>?_);have hI:IntsAre vs (vs.map toI):=by
  have all:∀v∈vs,∃tk,v=.int (toI v) tk:=λv vP=>by
   let#[e,sk,rfl]:=ao.mp (hv.mem_iff.mp vP);let#[tk,h1,_]:=zx mX sk;exact#[tk,h1]
  clear hv
  induction vs with
  |nil=>exact .nil
  |cons v r ih =>
   let#[tk,e]:=all v #[_];have:=IntsAre.cons (toI v) tk (ih λu hu=>all u (by simp[hu]));rw[<- e] at this;exact this
 have hk:(vs.map toI).Perm ks:=by
  refine(hv.map toI).trans ?_;rw[aX];exact hp
 have hl:vs.length<64:=by rw[hv.length_eq];simp;omega
 refine ae (Pa (s:={ s with heap:=h1,drawn:=d1,toks:=rB }) ?_);have lM:(h1.push (seqObj "list" vs.toArray 0)).get? h1.objs.size=some (seqObj "list" vs.toArray 0):=aB _ rfl;refine ae (bB (bS (s:={ s with heap:=h1.push (seqObj "list" vs.toArray 0),drawn:=d1,toks:=rB }) slot_list_sort #[_,lM,rfl] entry_list_sort (list_sort_tree lM hI hl λout jH a1 a2 a3=>#[_,rfl,?_]) (args_list_sort _)));let#[e,sk]:=sortedHeap_at (vs:=vs) (out:=out) lM;refine ak #[_,rfl,h h1.objs.size out.toList jH e _ d1 rB a1 (a2.trans hk) a3 sk la (λc o' e'=>?_) tV];have hc:=aC (he c o' e');rw[sortedHeap_old (aN hc) (by rw[size_push'];exact kz hc)];exact aj _ (he c o' e')
abbrev f9(ks xs:List Int):List Int:=xs.foldl I9 ks
def P0:∀(xs ks:List Int),(f9 ks xs).length<=ks.length+xs.length
 |[],ks=>by simp[f9]
 |x::xs,ks=>by
  have:=P0 xs (I9 ks x);have h2:=Uv ks x;show(f9 (I9 ks x) xs).length<=_
  grind
def Z2:∀(xs ks:List Int) (k:Int),k∈f9 ks xs↔k∈ks\/k∈xs
 |[],ks,k=>by simp[f9]
 |x::xs,ks,k=>by
  change k∈f9 (I9 ks x) xs↔_;rw[Z2 xs];unfold I9;split
  ·rename_i h;constructor
   ·rintro(a|a)
    ·exact .inl a
    ·exact .inr (by simp[a])
   ·rintro(a|a)
    ·exact .inl a
    ·rcases aF.mp a with rfl|b
     ·exact .inl h
     ·exact .inr b
  ·simp[or_assoc]
def Oj:∀(xs ks:List Int),ks.Nodup->(f9 ks xs).Nodup
 |[],ks,h=>h
 |x::xs,ks,h=>by
  refine Oj xs _ ?_;unfold I9;split
  ·exact h
  ·rename_i hk;rw[dn];exact#[h,by simp,λa ha b hb=>by simp at hb;subst hb;exact λz=>hk (z▸ha)]
def a31:Well (Led w) (SetTable.fresh 0 0 (Led w)):=#[by simp[kn,SetTable.fresh],rfl,rfl]
def NV(e:h.get? a=some { cls:=.type "set",dict:=none,data:=.set (List.toArray []) 0 (.fresh 0 0 (Led w)) }):w9 prog w h a [] :=
 #[_,(List.toArray []),0,_,e,#[rfl,rfl,rfl],rfl,(by intro e he;simp at he),by simp,by simp,by decide,by rfl,a31]
def Ws{R}{fp wr}{G}{P}{St}(W:WalksS prog w A.in1 I fp wr G n P St)(Iu:a∉fp)(hn:n=ns.length)(hv:∀i v,P i v->∃tk,v=.int (ns.getD i 0) tk)(hb:n+1<scanBound):∀(k i:Nat) (s:Shared),i+k=n->St i s->w9 prog w s.heap a (f9 [] (ns.take i)) ->
   (∀s',Moved (a::wr) G s s'->w9 prog w s'.heap a (f9 [] ns)->R (.ok (.ret .none)) s')->codeAny (model prog w) A (.builtin "set.update.loop" #[[.ref a,.ref I],[]]) R s:=by
 have hw:a∉wr:=λh=>Iu (W.sub _ h);have vj:∀b∈wr,b∈a::wr:=λb hb=>by simp[hb]
 intro k
 induction k with
 |zero =>
  intro i s e st hS hR;obtain rfl:i=n:=by omega
  refine dy jC ?_;refine ae (W.done s _ _ st λs' m=>ak (hR s' (m.mono vj) (w9.at ?_ λo e=>m.heap a o hw e)))
  simp_all
 |succ k ih =>
  intro i s e st hS hR;have dO:i<ns.length:=by omega
  refine dy jC ?_;refine ae (W.item i s _ _ () st λv s' hP lX m=>?_);let#[tk,rfl]:=hv i v hP;have lA:=w9.at hS λo e=>m.heap a o hw e;have hl:=P0 (ns.take i) [];rw[bG] at hl;simp only[List.length_nil] at hl;refine ae (bB ?_);refine bB (ae ((intKind prog w).pyHash (k:=ns.getD i 0) (eO _ _ _ _) ?_));refine Je (s:={ s' with toks:=s'.toks+1 }) lA () λh' bb sb qx=>?_;have e2:I9 (f9 [] (ns.take i)) (ns.getD i 0)=f9 [] (ns.take (i+1)):=by
   unfold f9;rw[bh,List.foldl_append,au dO];simp[List.getD,dO]
  rw[e2] at qx;refine ak #[gn PyProof.Rows.F.plain_set_update_loop _,ih (i+1) _ () (W.frame _ s' _ _ lX (jg _) λb hb o e=>by rw[sb.2 b λz=>Iu (z▸hb)];exact e) qx λs2 m2 h2=>?_];exact hR s2 (Moved.trans W.gtrans ((m.mono vj).then_heap (jg _) λb o hb e=>by rw[sb.2 b λz=>hb (by rw[z];simp)];exact e) m2) h2
noncomputable abbrev B5(w:World):Obj:={ cls:=.type "set",dict:=none,data:=.set (List.toArray []) 0 (.fresh 0 0 (Led w)) }
def Mz(h:Q (.ref s⁻¹) { s with heap:=s.heap.push (B5 w) }):wpAny (model prog w) A (newSet (.type "set")) Q E s:=by
 refine ae (xt ?_);exact bW h (bO _)
def UD(x:Value)(h:Q (.ref s⁻¹) { s with heap:=s.heap.push (B5 w) }):codeAny (model prog w) A (.call (.builtin "set.__new__") #[[.type "set",x],[]]) (wants Q E) s:=by
 refine vb (?_:wpAny _ A.in1 (do
  checkBuiltinCall "set.__new__" #[[.type "set",x],[]]
  again (.builtin "set.__new__" #[[.type "set",x],[]])) _ _ s)
 refine ae (eN (F.newCall_set_1 x) (ak #[gn F.plain_set_new _,?_]));refine dy F.entry_set_new ?_;have sub:=sub_set_self;refine ae (m:=Builtin.Frozenset.newClass "set" _) ?_;refine ae (eN (a:=true) (by rfl) ?_);refine ae (eN sub ?_);refine ak ?_;exact ae (Mz (ak h))
def zF{vs}(h:IntsAre vs ns):vs.length=ns.length:=by
 induction h with
 |nil=>rfl
 |cons n t r ih=>simp[ih]
abbrev xU(h:Heap)(l:Addr)(items:Array Value):Prop:=h.IsList l items\/h.IsTuple l items
def xU.lt(x:xU h l items):l<h.objs.size:=by
 rcases x with⟨_,e,_⟩|⟨_,e,_⟩<;>exact aC e
def UY{Q}(hh:A.handled=none)(hS:s.heap.get? a=some (B5 w))(hl:xU s.heap l items)(hi:IntsAre items.toList ns)(hb:items.size+1<scanBound)(fM:a≠l)(h:∀h' tk,w9 prog w h' a (f9 [] ns)->(∀b o,b≠a->s.heap.get? b=some o->h'.get? b=some o)->s.toks<=tk->wpAny (model prog w) A (ret .none) Q E { s with heap:=h',toks:=tk }) :
  wpAny (model prog w) A (Builtin.«set.__init__» #[[.ref a,.ref l],[]]) Q E s:=by
 have hT:s.TypeIs (.ref a) "set":=#[_,hS,rfl]
 have dO:=hl.lt;have HW:l≠s⁻¹:=aN dO;refine ae (eN (a:=Unit.unit) rfl ?_);have nm:∀{Q':String->Shared->Prop},(∀x,Q' x s)->wpAny (model prog w) A (typeNameOfCut 200 (.ref a)) Q' E s:=λ{Q'} q=>by
  refine ae (ae (dB hT ?_));refine ak (eN (a:="set") ?_ (q _))
  rfl
 refine ae (nm λx=>?_);refine ae (m:=checkCount _ 0 1 _) (ak ?_);refine ae (m:=Builtin.Frozenset.addrOf _) (ak ?_);refine ae (ae (cH hS rfl rfl (ak ?_)));rw[az (by unfold SetTable.fill;simp[SetTable.fresh])];unfold Builtin.Frozenset.updateFrom Builtin.Frozenset.isAnySet;obtain⟨c,uc,Cq,it,hit,HZ,St,W,fA⟩:∃c:String,(c="list"\/c="tuple")/\s.TypeIs (.ref l) c/\∃it:Obj,(∀Q':Value->Shared->Prop,Q' (.ref s⁻¹) { s with heap:=s.heap.push it }->wpAny (model prog w) A (pyIter (.ref l)) Q' E s) /\
   (∀b o,s.heap.get? b=some o->(s.heap.push it).get? b=some o)/\∃St:Nat->Shared->Prop,WalksS prog w A.in1 s⁻¹ [s⁻¹,l] [s⁻¹] (λa b=>b=a) items.size (λi v=>items[i]?=some v) St/\St 0 { s with heap:=s.heap.push it }:=by
  rcases hl with hl|hl
  ·let#[o,ho,hc,_]:=id hl;exact#["list",.inl rfl,#[o,ho,hc],_,λQ' q=>iJ hl q,λb o e=>aj _ e,_,(Walks.list (A:=A.in1) hh _ l HW items).toS,#[#[_,aB _ rfl,rfl,rfl],hl.push _]]
  ·let#[o,ho,hc,_]:=id hl;exact#["tuple",.inr rfl,#[o,ho,hc],_,λQ' q=>wpAny_pyIter_tuple hl q,λb o e=>aj _ e,_,(Walks.tuple (A:=A.in1) hh _ l HW items).toS,#[#[_,aB _ rfl,rfl,rfl],hl.push _]]
 refine ae (ae (ae (gg (b:=false) Cq (by rcases uc with rfl|rfl<;>(rw[ku];kernel_rfl)) ?_)));change wpAny (model prog w) A (isInstance (Value.ref l) (Value.type "frozenset")) _ _ _;refine gg (b:=false) Cq (by rcases uc with rfl|rfl<;>(rw[ku];kernel_rfl)) ?_;rw[az ∅];refine ae (dB Cq ?_);rw[az (by rcases uc with rfl|rfl<;>decide)];refine ae (hit _ ?_);refine ae (AJ ?_);have RC:a<s⁻¹:=aC hS;have hsz:items.size=ns.length:=by exact zF hi
 refine Ws (a:=a) (ns:=ns) W (by simp only[List.mem_cons,List.not_mem_nil,or_false,not_or];exact#[aN RC,fM]) hsz (λi v hv=>IntsAre.int_at hi i v (by rw[iS];exact hv)) hb items.size 0 _ ()
  fA (NV (HZ _ _ hS)) λs' m lA=>?_
 have eS:s'={ s with heap:=s'.heap,toks:=s'.toks }:=by
  let#[iu,g',d',jv,rO]:=s';have m1:g'=s.gens:=m.gens;have m2:d'=s.drawn:=m.drawn;have m3:rO=s.os:=m.os
  simp_all
 rw[eS];refine ak (h _ _ lA (λb o hb e=>?_) m.toks);exact m.heap b o (by simp only[List.mem_cons,List.not_mem_nil,or_false,not_or];exact#[hb,aN (aC e)]) (HZ _ _ e)
def Nc(hh:A.handled=none)(hl:xU s.heap l items)(hi:IntsAre items.toList ns)(hb:items.size+1<scanBound)(h:∀h' tk,w9 prog w h' s⁻¹ (f9 [] ns)->(∀b o,s.heap.get? b=some o->h'.get? b=some o)->s.toks<=tk->Q (.ref s⁻¹) { s with heap:=h',toks:=tk }) :
  wpAny (model prog w) A (call (.type "set") [.ref l]) Q E s:=by
 have cs:=F.called_set;let#[_,_,y1]:=cs.mro;have y2:=cs.made;have y3:=cs.sub;have y4:=cs.notType;have y5:=cs.canCreate;have y6:=F.typeCall_set_1 (.ref l);refine wpAny_call (vb (?_:wpAny _ _ (callAny (.type "set") _) _ _ _));refine ak #[Code.quiet_builtin _ #[],dy F.entry_type_call ?_];rw[Around.under_plain (weight_type_call_type "set" [.ref l] []) rfl]
 repeat (any_goals (first|assumption|wp_step))
 refine gO (UD (.ref l) (E:=E) (Q:=λv s1=>v=.ref s⁻¹/\s1={ s with heap:=s.heap.push (B5 w) }) #[rfl,rfl]) ?_;rintro(e|fl) s1 hr
 ·exact hr
 cases fl with
 |next=>exact hr
 |brk=>exact hr
 |cont=>exact hr
 |ret v =>
 let#[rfl,rfl]:=hr;have hS:(s.heap.push (B5 w)).get? s⁻¹=some (B5 w):=aB _ rfl;have hT:Shared.TypeIs { s with heap:=s.heap.push (B5 w) } (.ref s⁻¹) "set":=#[_,hS,rfl]
 have y7:=cs.init.lookup;have y8:=cs.init.bind (.ref s⁻¹)
 repeat (any_goals (first|assumption|wp_step))
 refine gO (codeAny_call_builtin (R:=wants (λv s2=>v=.none/\∃h' tk,s2={ s with heap:=h',toks:=tk }/\w9 prog w h' s⁻¹ (f9 [] ns)/\(∀b o,s.heap.get? b=some o->h'.get? b=some o)/\s.toks<=tk) E) cs.init.plain F.entry_set_init (check_set_init_1 hT ?_)) ?_
 ·have HY:xU (s.heap.push (B5 w)) l items:=hl.imp (·.push _) (·.push _);have QZ:=hl.lt;refine UY (s:={ s with heap:=s.heap.push (B5 w) }) (by simp[hh]) hS HY hi hb (bI QZ) λh' tk h1 h2 h3=>ak #[rfl,h',tk,rfl,h1,λb o e=>h2 b o (aN (aC e)) (aj _ e),h3]
 ·rintro(e|fl) s2 hr
  ·exact hr
  cases fl with
  |next=>exact hr
  |brk=>exact hr
  |cont=>exact hr
  |ret v =>
  let#[rfl,h',tk,rfl,h1,h2,h3]:=hr
  repeat (any_goals (first|assumption|wp_step))
  exact h _ _ h1 h2 h3
end ST
namespace L2
open PySem PySem.Spec PyProof.Rows
abbrev sW(X:Cx)(a:Addr)(ks:List Int):HO:=.ext λh=>ST.w9 X.prog X.w h a ks
abbrev m5(ns:List Int):List Int:=(ST.f9 [] ns).mergeSort (λa b=>decide (a<=b))
def Q8:∀{a b:List Int},a.Perm b->a.Pairwise (·<=·)->b.Pairwise (·<=·)->a=b
 |[],b,h,_,_=>by simp_all
 |x::a,[],h,_,_=>absurd h.length_eq #[_]
 |x::a,y::b,h,h1,h2=>by
  rw[cU] at h1 h2;have e:x=y:=by
   have m1:=h.mem_iff (a:=y);have m2:=h.mem_iff (a:=x);simp only[List.mem_cons,true_or,true_iff,iff_true] at m1 m2;rcases m1 with z|z
   ·exact z.symm
   ·grind
  subst e;rw[Q8 (h.cons_inv) h1.2 h2.2]
def EZ(ns:List Int):(m5 ns).Pairwise (·<=·):=by
 have:=tL (le:=λa b:Int=>decide (a<=b)) (λa b c h1 h2=>by simp at *;omega) (λa b=>by simp;omega) (ST.f9 [] ns);exact this.imp λh=>by simpa using h
def K5(ns:List Int):(m5 ns).Perm (ST.f9 [] ns):=Hb _ _
def Q6(ns:List Int):(m5 ns).length<=ns.length:=by
 rw[(K5 ns).length_eq];have:=ST.P0 ns []
 simp_all
section
variable{X:Cx}{pi:List (Addr×Obj)}{Z:St}{H:Hp}{s:Shared}
def Inv.draw(I:Inv X pi Z H s)(d:Drawn):Inv X pi Z H { s with drawn:=d } :=
 I.step (g':=s.gens) (t':=s.toks) (d':=d) (ch:=[]) #[_] (λb o _ _ _ e _=>e) (λb o _ _ _ e _=>#[o.slots,e]) (λb o _ _ e=>e) (λb o _ e=>#[o,e]) (λ_ _ e=>e) (λ_ _ _ e=>e) (λb ps e=>#[(List.toArray []),by simp[e]]) (λm hm=>hm) I.bJ I.bare
def MR{h}{a}{ks}(x:ST.w9 X.prog X.w h a ks):p6 X.prog X.w H h a (sW X a ks) :=
 #[x,by let#[o,_,_,_,e,_]:=x;exact#[o,e],λh1 h2 y k=>y.at k]
def Fb{ns}{vs}(h:IntsAre vs ns):Vals (ns.map V.int) vs:=by
 induction h with
 |nil=>exact .nil
 |cons n t r ih=>exact .cons #[t,rfl] ih
def T5:∀{ns:List Int} {vs:List Value},Vals (ns.map V.int) vs->IntsAre vs ns
 |[],_,h=>by cases h;exact .nil
 |n::ns,_,h=>by
  cases h with
  |cons r rr =>
   let#[t,rfl]:=r;exact .cons n t (T5 rr)
def LL(hc:X.calm=true):p9 X (.type "set") (λxs H Q=>∃a ns,xs=[.ref a]/\fq X.K H a (ns.map V.int)/\ns.length<60/\∀p,H p=none->Q (.ref p) (upd H p (sW X p (ST.f9 [] ns)))):=by
 intro pi s Z H xs us Q I r h;let#[a,ns,rfl,hq,hl,q]:=h;cases r with
 |cons r rr =>
 cases rr;cases r;let#[aU,rv,p,hz]:=I.list hq;have hI:=T5 rv;have hlen:=ST.zF hI;refine ST.Nc (ns:=ns) (I.ok.hd hc) (.inl p.isList) (by simpa using hI) (by rw[aQ,hlen];exact ay (Nat.succ_lt_succ hl) ∅) λh' tk hS hk _=>?_;exact#[.ref _,_,I.laid (a:=s⁻¹) (t':=tk) hk (av _) (MR hS),rfl,q _ (I.bJ.fresh (av _))]
def LZ(hc:X.calm=true):p9 X (.builtin "sorted") (λxs H Q=>∃a ns,xs=[.ref a]/\H a=some (sW X a (ST.f9 [] ns))/\ns.length<60/\∀p,H p=none->Q (.ref p) (upd H p (.lst ((m5 ns).map V.int)))):=by
 intro pi s Z H xs us Q I r h;let#[a,ns,rfl,ha,hl,q]:=h;cases r with
 |cons r rr =>
 cases rr;cases r;have hS:ST.w9 X.prog X.w s.heap a (ST.f9 [] ns):=(I.bJ a _ ha).1;have hn:=ST.P0 ns [];simp only[List.length_nil] at hn;refine ST.a00 (I.ok.hd hc) hS () λS vs jH e h' d' jv h1 h2 h3 h4 h5 h6 _=>?_;have e1:jH=m5 ns:=Q8 (h2.trans (K5 ns).symm) h3 (EZ ns);subst e1;have hz:=Q6 ns;exact#[.ref S,_,(I.laid (a:=S) (o:=.lst ((m5 ns).map V.int)) (t':=jv) h6 h5 #[by rw[ai];exact aD hz (aD (dk hl) ∅),vs,e,Fb h1,h4]).draw d',rfl,q S (I.bJ.fresh h5)]
end
end L2
namespace ST
open PySem PyProof.Rows
def Uz{prog}{w}{A}{E}{s}{a}{ks}{k}{tk}{Q}(hS:w9 prog w s.heap a ks)(hr:ks.length+1<scanBound)(h:∀h',Heap.SameBut a s.heap h'->w9 prog w h' a (I9 ks k)->Q .none { s with heap:=h',toks:=s.toks+1 }):wpAny (model prog w) A (call (.builtin "set.add") [.ref a,.int k tk]) Q E s:=by
 have hT:s.TypeIs (.ref a) "set":=let ⟨o,_,_,_,e,x,_⟩:=hS;#[o,e,x.1]
 refine bS F.slot_set_add hT F.entry_set_add ?_ (F.args_set_add_2 _ _);have go:∀(Q':Fin->Shared->Prop),(∀h',Heap.SameBut a s.heap h'->w9 prog w h' a (I9 ks k)->wpAny (model prog w) A.in1 (ret .none) Q' E { s with heap:=h',toks:=s.toks+1 })->wpAny (model prog w) A.in1 (do let _ <- setAdd a (.int k tk);ret .none) Q' E s:=λQ' q=>by
  refine ae (bB (ae ((intKind prog w).pyHash (k:=k) (eO _ _ _ _) ?_)));exact Je (s:={ s with toks:=s.toks+1 }) hS hr λh' b sb S2=>q h' sb S2
 unfold Builtin.«set.add» Builtin.Frozenset.oneOther;simp only[List.isEmpty_nil,bind_assoc];refine ae (ak ?_);refine ae (ak ?_);exact go _ λh' sb S2=>ak #[_,rfl,h h' sb S2]
end ST
namespace L2
open PySem PySem.Spec PyProof.Rows
variable{elt iter:Expr}{ifs:List Expr}{scope:Scope}{pos:Pos}
section
variable{prog:Program}{w:World}{A:Around}{R:Result->Shared->Prop}{s:Shared}
def aZ4(elt target iter:Expr)(ifs:List Expr)(scope:Scope)(pos:Pos)(it acc:Value)(env:Env):compTurn (.SetComp elt [#[target,iter,ifs,0]] scope pos) 0 it acc env=(do
      standAt iter.pos
      match <- pyNext it with
      |none=>pure (.done .next)
      |some v =>
        letOwnedTupleGo target it v
        assign target env v
        let mut ok:=true
        for c in ifs do if ok then ok <- isTrue c env (eval c env)
        if ok then(do let x <- eval elt env;standAt elt.pos;let _ <- call (.builtin "set.add") [acc,x])
        again (.compLoop (.SetComp elt [#[target,iter,ifs,0]] scope pos) 0 it acc env)):=by rfl
def aG3{target}{it acc}{env}(I:Nat->Shared->Prop)(turn:∀ n s,I n s->wpAny (model prog w) A (pyNext it) (λr bz=>match r with
   |none=>R (.ok .next) bz
   | some v=>wpAny (model prog w) A (letOwnedTupleGo target it v) (λ_ bz=>wpAny (model prog w) A (assign target env v) (λ_ eT =>
     wpAny (model prog w) A (forIn ifs true λc r=>if r=true then do let ok <- isTrue c env (eval c env);pure (ForInStep.yield ok) else pure (ForInStep.yield r)) (λok dQ =>
      if ok=true then wpAny (model prog w) A (eval elt env) (λx fG =>
       wpAny (model prog w) A (call (.builtin "set.add") [acc,x]) (λ_ gx=>∃ m,m < n/\I m gx) (λ_ _=>False) fG) (λ_ _=>False) dQ
      else ∃ m,m < n/\I m dQ) (λ_ _=>False) eT) (λ_ _=>False) bz) (λ_ _=>False) bz) (λ_ _=>False) s)(n:Nat)(h:I n s) :
  codeAny (model prog w) A (.compLoop (.SetComp elt [#[target,iter,ifs,0]] scope pos) 0 it acc env) R s:=by
 refine codeAny_loop rfl I (λn s hI=>?_) n h;change wpAny _ A ((compTurn (.SetComp elt [#[target,iter,ifs,0]] scope pos) 0 it acc env).onRaise (λx=>do noteFrame x env;theTreesLotGoes x)) _ _ s;refine wpAny_noted ?_;rw[aZ4];refine ae (cZ (ae (aY (turn n s hI) (λr bz cM=>?_) λ_ _ h'=>h'.elim)));cases r with
 |none=>exact ak cM
 |some v =>
  refine ae (aY cM (λ_ bz cM=>?_) λ_ _ h'=>h'.elim);refine ae (aY cM (λ_ eT gj=>ae (aY gj (λok dQ kf=>?_) λ_ _ h'=>h'.elim)) λ_ _ h'=>h'.elim);cases ok with
  |false=>exact wpAny_pure #[rfl,kf]
  |true =>
   exact ae (ae (aY kf (λx fG mS=>ae (cZ (ae (aY mS (λ_ gx mR=>ak (ak #[rfl,mR])) λ_ _ h'=>h'.elim)))) λ_ _ h'=>h'.elim))
def a04{target}{it acc}{env}(h0:codeAny (model prog w) A (.compLoop (.SetComp elt [#[target,iter,ifs,0]] scope pos) 0 it acc env) R s)(h:wpAny (model prog w) A (pyIter it) (λHK s'=>codeAny (model prog w) A (.compLoop (.SetComp elt [#[target,iter,ifs,0]] scope pos) 0 HK acc env) R s') (notedBy (model prog w) A env λx s'=>R (.error x) s') s) :
  codeAny (model prog w) A (.compStart (.SetComp elt [#[target,iter,ifs,0]] scope pos) 0 it acc env) R s:=by
 refine vb (?_:wpAny _ _ ((compStart (.SetComp elt [#[target,iter,ifs,0]] scope pos) 0 it acc env).onRaise (λx=>do noteFrame x env;standAt theWindowsPlace)) _ _ s);refine wpAny_notedAt ?_;refine ae (rj (wpAny_ite ?_));split
 ·first
   |exact ak #[rfl,h0]
   |exact ae (ak (ak #[rfl,h0]))
 ·refine ae (gf ?_);exact ae (cZ (ae (aY h (λHK s' h'=>ak #[rfl,h']) λ_ _ x=>x)))
end
abbrev JT(o:Obj):Prop:=∀v,o.data≠.cell v
abbrev bG9(X:Cx)(wi:TI)(d6:List Nat)(n:Nat)(g:TG)(tc:TT)(te:TE):TE:=λZ H Q=>wi Z H λJ H1=>∃W:Nat->Nat->List Int->St->Hp->Prop,(∃m,W 0 m [] (C9 Z d6 n) H1)/\∀i m ys Z H,W i m ys Z H ->
 (J.stop i H/\∀p,H p=none->Q (.ref p) (upd H p (sW X p (ST.f9 [] ys)))) \/
 (J.go i H/\ys.length < 60/\∀ x H',J.nJ i H x H'->g x Z H' λcz H2=>tc cz H2 λb H3 =>
  if b=true then te cz H3 λy H4=>∃ k,y=.int k/\∃ m',m' < m/\W (i + 1) m' (ys ++ [k]) cz H4 else ∃ m',m' < m/\W (i + 1) m' ys cz H3)
section
variable{X:Cx}{pi:List (Addr×Obj)}{Z:St}{H:Hp}{s:Shared}
def Inv.OK{D}{φ}(I:Inv X pi Z H s)(f:K8 X pi H D)(hs:X.dt.heap.objs.size<=D)(ho:p6 X.prog X.w (upd H D (.ext φ)) s.heap D (.ext φ)):Inv X pi Z (upd H D (.ext φ)) s:=by
 let#[f0,f1,f2,f3,f4,f5]:=f;have fM:∀b o,X.dt.heap.get? b=some o->b≠D:=λb o e z=>absurd (aC e) (by simp_all);have tup:∀b u,H b=some u->upd H D (.ext φ) b=some u:=λb u e=>by rw[d0 (i7 e f0)];exact e
 refine#[I.ok,I.os,I.bare,#[?_,?_,?_,I.base.there,?_,?_,?_],I.loc,I.cell,?_,?_,?_,?_,I.len,I.sg]
 ·exact λb o e n1 n2 n3=>I.base.keep b o e n1 n2 n3
 ·exact λb o e n1 n2 n3=>I.base.slot b o e n1 n2 n3
 ·exact λb o e n1 n2=>by rw[d0 (fM b o e)];exact I.base.free b o e n1 n2
 ·exact λb xs e=>tup _ _ (I.base.iC b xs e)
 ·exact λb o u e=>tup _ _ (I.base.ic b o u e)
 ·exact λb ps e=>by
   let#[more,q]:=I.base.iD b ps e;exact#[more,tup _ _ q]
 ·rw[d0 f1.symm];exact I.free
 ·exact λx c e=>by rw[d0 (f4 x c e)];exact I.eK x c e
 ·intro p hp;let#[p1,p2,p3]:=I.pin p hp;exact#[p1,by rw[d0 (f5 p hp)];exact p2,p3]
 ·intro a o e;by_cases ha:a=D
  ·subst ha;rw[k6] at e
   simp_all
  ·rw[d0 ha] at e;have q:=I.bJ a o e;refine q.J7 (λb u _ h=>h) (λb hb=>tup _ _ hb) (λb xs hb=>tup _ _ hb)
abbrev KS(X:Cx)(a:Addr)(ys:List Int)(h:Heap)(o:Obj):Prop:=ys.length<=60/\JT o/\h.get? a=some o/\ST.w9 X.prog X.w h a (ST.f9 [] ys)
def Mo{n0}:AF X n0 (KS X) λa ys=>sW X a (ST.f9 [] ys) where
 nc:=λh=>h.2.1
 get:=λh=>h.2.2.1
 J7:=λ⟨h1,h2,h3,h4⟩ e=>#[h1,h2,e,h4.at λo e'=>by rw[h3] at e';cases e';exact e]
 done:=λ_ I f hs ⟨_,_,h3,h4⟩=>I.OK f hs (MR h4)
def aR9{tg:Expr}{N':List Str}{d6:List Nat}{cl:List (Str×Addr)}{it:Addr}{fp:List Addr}{tn:Nat->Heap->Prop}{J:It}{g:TG}{tc:TT}{te:TE}{RR:Value->Addr->Result->Shared->Prop}{E:Value->Shared->Prop}{W:Nat->Nat->List Int->St->Hp->Prop}{m0:Nat}{Q:VK}(S:cC X scope N' d6 cl)(hc:X.calm=true)(hg:∀C s H,PG (f6 X pi scope N' cl C s H fp) tg g)(ht:∀C s H,jy (f6 X pi scope N' cl C s H fp) ifs tc)(he:∀C s H,PE (f6 X pi scope N' cl C s H fp) elt te)(I:Inv X pi Z H s)(T:Turn X.prog X.w X.K tg J fp it tn)(st:tn 0 s.heap)(hf:∀b∈fp,K8 X pi H b)(w0:W 0 m0 [] (C9 Z d6 N'.length) H)(turn:∀ i m ys Z H,W i m ys Z H->(J.stop i H/\∀ p,H p=none->Q (.ref p) (upd H p (sW X p (ST.f9 [] ys)))) \/
   (J.go i H/\ys.length < 60/\∀ x H',J.nJ i H x H'->g x Z H' λcz H2=>tc cz H2 λb H3 =>
    if b=true then te cz H3 λy H4=>∃ k,y=.int k/\∃ m',m' < m/\W (i + 1) m' (ys ++ [k]) cz H4 else ∃ m',m' < m/\W (i + 1) m' ys cz H3))(su:∀D C s' H' m,Inv X pi Z H' s'->Q (.ref D) H'->s'.heap.Ns C m->H' C=none->s⁻¹<=C->RR (.ref D) C (.ok .next) s') :
  wpAny (model X.prog X.w) X.A (newSet (.type "set")) (λacc dQ=>wpAny (model X.prog X.w) X.A (newFunctionEnv scope X.env.globals cl [] X.env.qual none .none (some X.env)) (λjN fG =>
   codeAny (model X.prog X.w) X.A (.compStart (.SetComp elt [#[tg,iter,ifs,0]] scope pos) 0 (.ref it) acc { jN with scope:=relabel scope X.env }) (RR acc jN.locals) fG) E dQ) E s:=by
 refine ST.Mz (X9 λcM gk eU mj=>?_);dsimp only at gk eU mj ⊢;have eC:(s.heap.push (ST.B5 X.w)).objs.size=s⁻¹+1:=dM ..
 replace eC:=eC.symm
 have jr:cM.get? s⁻¹=some (ST.B5 X.w):=eU _ _ (aB _ rfl);generalize (s.heap.push (ST.B5 X.w)).objs.size=C at *;refine (λL=>a04 L.2 (T.self _ 0 _ _ _ L.1 L.2)) (Ez (R:=RR (.ref s⁻¹) C) (LP:=codeAny (model X.prog X.w) X.A (.compLoop (.SetComp elt [#[tg,iter,ifs,0]] scope pos) 0 (.ref it) (.ref s⁻¹) (compEnvC scope (E8 scope cl C) C X.env)) (RR (.ref s⁻¹) C)) (tb:=λys Z H P=>te Z H λy H'=>∃ k,y=.int k/\P (ys ++ [k]) H') (env:=compEnvC scope (E8 scope cl C) C X.env)
  (body:=λP dQ=>wpAny (model X.prog X.w) X.A (eval elt (compEnvC scope (E8 scope cl C) C X.env)) (λx fG=>wpAny (model X.prog X.w) X.A (call (.builtin "set.add") [.ref s⁻¹,x]) (λ_ gx=>P gx) (λ_ _=>False) fG) (λ_ _=>False) dQ)
  Mo S hc (hg C s H) (ht C s H) I T st hf w0 turn (λs' H' m=>su _ C s' H' m) #[_,gk] eU mj eC #[bO _,(λv (z:Data.set _ _ _=_)=>by cases z),jr,ST.NV jr] rfl (λys o fo bV H' s' P R' hz k hb I' q hR=>?_) (λI turn n h=>aG3 I turn n h))
 refine cE (he C s H _ s' bV H' _ I' q) λxv s8 bp=>?_;let#[y,H8,I8,r8,kk,ey,q8]:=bp;subst ey;let#[tk,rfl]:=r8;let#[_,_,_,S8]:=(Mo (X:=X) (n0:=0)).J7 k (hb I8);have Bu:=ST.P0 ys [];simp only[List.length_nil] at Bu;refine ST.Uz S8 (ay (by omega:_<62) ∅) λh' sb S9=>?_;have e9:ST.I9 (ST.f9 [] ys) kk=ST.f9 [] (ys++[kk]):=by unfold ST.f9;rw[List.foldl_append];rfl
 rw[e9] at S9;let#[o9,Sw,Sx,t9,g9,x9,d9,r9]:=id S9;exact hR s8 H8 _ h' (s8.toks+1) o9 I8 q8 (λb' u hb hu=>by rw[sb.2 b' hb];exact hu) #[by rw[dI,yq];omega,(λv z=>by rw[d9] at z;cases z),g9,S9]
def Vw{tg}{N'}{d6}{cl}{wi}{g}{tc}{te}(S:cC X scope N' d6 cl)(hc:X.calm=true)(hi:PI X tg iter wi)(hg:∀pi C s H fp,PG (f6 X pi scope N' cl C s H fp) tg g)(ht:∀pi C s H fp,jy (f6 X pi scope N' cl C s H fp) ifs tc)(he:∀pi C s H fp,PE (f6 X pi scope N' cl C s H fp) elt te)(hs:∀x,foldedSetIterable iter X.env x=pure x):PE X (.SetComp elt [#[tg,iter,ifs,0]] scope pos) (bG9 X wi d6 N'.length g tc te):=by
 intro pi s Z H Q I h;refine dF (use:=none) rfl hs S.nt S.kind S.names (cE (hi pi s Z H _ I h) λxv bz cM=>cE cM λrT eT gj=>?_);let#[it,fp,tn,J,H2,e,I2,T,jj,f2,W,#[m0,w0],turn]:=gj;subst e;refine aR9 (RR:=λacc C=>compPost (model X.prog X.w) X.A X.xe none (EP X pi Z Q) acc C) S hc (λC s H=>hg pi C s H fp) (λC s H=>ht pi C s H fp) (λC s H=>he pi C s H fp) I2 T jj f2 w0 turn ?_;intro D C s' H' m I' q hn hC hsz;exact#[m,hn,λh' sb=>#[.ref D,H',I'.GC hsz I2 hC sb,rfl,q]]
end
end L2
namespace HT
open PySem PyProof.Rows Builtin
def au0:fillsNumberSlot (.type "tuple") "mul"=pure false :=
 PySem.fillsNumberSlot_seq (id:="tuple.__mul__") (r:=some (.builtin "tuple.__rmul__")) F.slot_tuple_mul.lookup #[] F.slot_tuple_rmul.lookup #[]
def aL6:seqRepeat? (.type "tuple")=pure (some (.builtin "tuple.__mul__")):=by
 rfl
def aB2(a:Int)(t:Tok)(l:Addr)(items:Array Value)(n:Nat)(dd:Option Addr)(sl:Array (Option Value)) :
  Meets (Builtin.«int.__rmul__» #[[.int a t,.ref l],[]]) (λ_ R s=>s.heap.get? l=some { cls:=.type "tuple",dict:=dd,data:=.seq items n,slots:=sl }/\R (.ok (.ret Value.notImplemented)) s) :=
 .of_wp λprog w A R s h=>by let#[hl,h]:=h;wp_walk;exact#[_,rfl,h]
section
variable{prog:Program}{w:World}{A:Around}{E:Value->Shared->Prop}{s:Shared}
def a34(aU:List Value):∀(m:Nat) (acc:Array Value),List.foldl (λx1 x2=>x1++x2) acc (List.replicate m aU.toArray)=acc++(List.replicate m aU).flatten.toArray:=by
 intro m
 induction m with
 |zero=>intro acc;simp
 |succ m ih=>intro acc;rw[fU,List.foldl_cons,ih,fU,List.flatten_cons];simp
def a61{a}{aU}{n}{t}{Q}(ht:IsTup s.heap a aU.toArray)(fM:aU≠[])(h1:1<=n)(h2:n<2 ^ 62)(hz:aU.length*n.toNat<=sizeLine)(q1:n=1->Q (.ref a) s)(q2:Q (.ref s⁻¹) { s with heap:=s.heap.push { cls:=.type "tuple",data:=.seq (List.replicate n.toNat aU).flatten.toArray } }):wpAny (model prog w) A (binaryOp .Mult (.ref a) (.int n t)) Q E s:=by
 let#[o,ho,hc,k,hd]:=id ht;let#[cls,dict,data,slots]:=o;subst hc hd;have he:aU.toArray.isEmpty=false:=by grind
 refine GY (T:="tuple") (U:="int") ∅ ht.typeIs (λs'=>mB s' n t) au0 F.fills_int_mul jS aL6 F.slot_int_index.lookup
  (dG jS (mB s n t) F.entry_int_rmul (F.args_int_rmul_2 _ _) (aB2 n t a aU.toArray k dict slots) #[ho,rfl,ht.typeIs,?_])
 refine bS F.slot_tuple_mul ht.typeIs F.entry_tuple_mul ?_ (F.args_tuple_mul_2 _ _);refine ae (eN (show asIndex (.int n t)=pure n from rfl) ?_);rw[az (by simp only[Bool.or_eq_true,decide_eq_true_eq];omega)];refine ae (tupleItemsOf_ ht ?_);have big:¬((aU.toArray.size:Int)*n>(2 ^ 63-1) / 8):=by
  rw[aQ];have:((aU.length*n.toNat:Nat):Int)=(aU.length:Int)*n:=by grind
  have hs:sizeLine<2 ^ 59:=by decide
  omega
 have many:¬(Builtin.Tuple.tupleTooMany ((aU.toArray.size:Int)*n)=true):=by
  unfold Builtin.Tuple.tupleTooMany
  grind
 have hsz:sizeOk (.seq (List.replicate n.toNat aU).flatten.toArray):=by
  show(List.replicate n.toNat aU).flatten.toArray.size<=sizeLine;simp only[List.size_toArray,List.length_flatten,List.map_replicate,List.sum_replicate_nat];rw[vd];exact hz
 by_cases e1:n=1
 ·subst e1;rw[aH (by rw[he];rfl)];refine ae (ae (dB ht.typeIs (ak ?_)))
  first
   |exact ae (gf (ae (ak #[_,rfl,ak (q1 rfl)])))
   |exact ae (gf (ak #[_,rfl,(q1 rfl)]))
   |exact ae (gf (ak #[_,rfl,ak (q1 rfl)]))
 ·rw[az (by rw[he];simpa using e1)];rw[az (by grind),az big,az many];rw[show List.foldl (λx1 x2=>x1++x2) (List.toArray []) (List.replicate n.toNat aU.toArray)=(List.replicate n.toNat aU).flatten.toArray by rw[a34];simp]
  first
   |exact ae (m:=Builtin.Tuple.tupleExact _) (bW (ak #[_,rfl,q2]) hsz)
   |exact ae (m:=Builtin.Tuple.tupleExact _) (bW (ak #[_,rfl,ak q2]) hsz)
end
end HT
namespace L2
open PySem PySem.Spec PyProof.Rows
section
variable{X:Cx}
abbrev XU(K:PySem.W.Frag):R2:=λx y H Q=>∃(a:Addr) (n:Int) (xs:List V),x=.ref a/\y=.int n/\ig K H a xs/\xs≠[]/\1<=n/\n<2 ^ 62/\xs.length*n.toNat<=sizeLine /\
 (n=1->Q (.ref a) H)/\(∀p,H p=none->Q (.ref p) (upd H p (.tup (List.replicate n.toNat xs).flatten)))
def bB1:fP X (binaryOp .Mult) (XU X.K):=by
 intro pi s Z H x y v u Q I rx ry h;let#[a,n,xs,rfl,rfl,ha,fM,h1,h2,hz,q1,q2]:=h;cases rx;let#[tk,rfl]:=ry;let#[aU,r,p,_]:=I.tuple ha;refine HT.a61 p (λz=>fM (r.uM.mp z)) h1 h2 (by rw[<- r.length];exact hz) (λe=>#[.ref a,H,I,rfl,q1 e]) ?_;refine#[.ref s⁻¹,_,I.laid (t':=s.toks) (o:=.tup (List.replicate n.toNat xs).flatten) (λb ob q=>aj _ q) (av _) ?_,rfl,q2 _ (I.bJ.fresh (av _))];exact#[by rw[len_rep,vd];exact hz,_,r.rep _,P7.new _ _]
abbrev bC7(sep:Str)(ys:List Str):Nat:=ys.foldl (λn y=>n+y.length+sep.length) 0
end
end L2
namespace HT
open PySem PyProof.Rows Builtin PySem.SeqAt
section
variable{prog:Program}{w:World}{A:Around}{E:Value->Shared->Prop}{s:Shared}
def Xh:typeLookup (.type "tuple") (dunderI "add")=pure none:=by
 kernel_rfl
def UW{t b}{vs ws}{Q}(ht:IsTup s.heap t vs.toArray)(hb:IsTup s.heap b ws.toArray)(h0:vs=[]->Q (.ref b) s)(h1:ws=[]->Q (.ref t) s)(h2:Q (.ref s⁻¹) { s with heap:=s.heap.push { cls:=.type "tuple",data:=.seq (vs++ws).toArray } })(hsz:vs.length+ws.length<=sizeLine):wpAny (model prog w) A (inplaceOp .Add (.ref t) (.ref b)) Q E s:=by
 let#[#[cls,dd,data,sl],ho,hc,n,hd]:=id ht;let#[#[xa,qK,data2,kZ],kQ,pB,n2,hd2]:=id hb;subst hc hd pB hd2;have e:vs.toArray++ws.toArray=(vs++ws).toArray:=by simp
 refine wpAny_inplaceOp_concat (T:="tuple") #[_,ho,rfl] #[_,kQ,rfl] Xh jf lV ?_;by_cases hv:vs=[]
 ·subst hv;exact dG rm #[_,ho,rfl] oQ (mE _ _) (tuple_addW0 t b (List.toArray []) ws.toArray n n2 dd qK sl kZ rfl) #[ho,kQ,h0 rfl]
 by_cases hw:ws=[]
 ·exact dG rm #[_,ho,rfl] oQ (mE _ _) (tuple_addW1 t b vs.toArray ws.toArray n n2 dd qK sl kZ (by simpa using hv) (by simp[hw])) #[ho,kQ,h1 hw]
 ·refine dG rm #[_,ho,rfl] oQ (mE _ _) (tuple_addW2 t b vs.toArray ws.toArray n n2 dd qK sl kZ (by simpa using hv) (by simpa using hw) ()) #[ho,kQ,?_];rw[e];exact h2
end
end HT
namespace L2
open PySem PySem.Spec PyProof.Rows
section
variable{X:Cx}
abbrev FZ(ys:List V)(y:V)(n:Nat):Prop:=ys.all M6=true/\M6 y=true/\(∃z,ys[n]?=some z/\lS z y=true)/\∀(m:Nat) z,m<n->ys[m]?=some z->lS z y=false
def Ei:∀{xs:List V} {us:List Value} {i:Nat} (hi:i<us.length),Vals xs us->∃x,xs[i]?=some x/\RelV x us[i]
 |_,_,0,hi,.cons r _=>#[_,rfl,r]
 |_,_,i+1,hi,.cons _ t=>by
  let#[x,h1,h2]:=Ei (i:=i) (by simpa using hi) t;exact#[x,by simpa using h1,by simpa using h2]
def JU{xs:List V}(h:xs.all M6=true){i:Nat}{x:V}(e:xs[i]?=some x):M6 x=true:=bt.mp h x (aJ e)
def WH{ys}{y}{n}{aU}(F:FZ ys y n)(r:Vals ys aU):∃hn:n<aU.toArray.size,mx y aU.toArray[n]=true/\∀m (hm:m<aU.toArray.size),m<n->mx y aU.toArray[m]=false:=by
 let#[fs,fy,#[z,hz,he],nW]:=F;have hl:=r.length;have hn:n<aU.length:=by
  grind
 refine#[by simpa using hn,?_,λm hm QW=>?_]
 ·let#[x,hx,rx]:=Ei hn r;rw[hz] at hx;cases hx;rw[AO,zi rx (JU fs hz)];exact he
 ·have lN:m<aU.length:=by simpa using hm
  let#[x,hx,rx]:=Ei lN r;rw[AO,zi rx (JU fs hx)];exact nW m x QW hx
abbrev MM(K:PySem.W.Frag):V->List V->Hp->VK->Prop:=λx xs H Q=>∃a ys y n,x=.ref a/\xs=[y]/\fq K H a ys/\FZ ys y n/\n<2 ^ 62/\Q (.int n) H
def Xf(hu:X.A.units+100<cLine):lE X "list.index" (MM X.K):=by
 intro pi s Z H x xs v us Q I rx r h;let#[a,ys,y,n,rfl,rfl,hq,W,pv,q]:=h;cases rx;cases r with
 |cons ry rr =>
 cases rr;let#[aU,rv,p,hz]:=I.list hq;have pt:=p.isList.typeIs;let#[#[cls,dd,data,sl],k,ho,hc,Ij,hd]:=id p;simp only at hc Ij hd;subst hc Ij hd;let#[hn,hit,nW]:=WH W rv;refine dG F.slot_list_index pt F.entry_list_index (F.args_list_index_2 _ _) (SeqAt.list_indexAt a aU.toArray k none sl _ (mx y) n hn () hit nW) #[ho,λw hw=>zK ry W.2.1 rv W.1 w (by simpa using hw),#[.int n,H,I.tok _,#[_,rfl],q]]
abbrev DT(K:PySem.W.Frag)(H:Hp)(a:Addr)(xs:List V):Prop :=
 H a=some (.tup xs)\/∃(o:Obj) (aU:Array Value) (n:Nat),K.lookup a=some o/\o.cls=.type "tuple"/\o.dict=none/\o.data=.seq aU n/\aU.size<=sizeLine/\Vals xs aU.toList
def DT.sq{K}{H}{a}{xs}(h:DT K H a xs):ig K H a xs:=by
 rcases h with h|⟨o,aU,n,h1,h2,_,h3,h4,h5⟩
 ·exact .inl (.inl h)
 ·exact .inr #[o,aU,n,h1,h2,h3,h4,h5]
abbrev bH2(K:PySem.W.Frag)(to:TE)(t:TA):TE:=λZ H Q=>to Z H λx H1=>∃a xs,x=.ref a/\fq K H1 a xs/\t Z H1 λys H2=>MM K x ys H2 Q
def Vt{o e}{es}{to}{t}{apos eL}(hu:X.A.units+100<cLine)(ho:PE X o to)(ha:PA X (e::es) t)(fI:attributeBase o "index" X.env (eval o X.env)=eval o X.env)(kR:((backTo eL (starEach (e :: es) X.env)).all (λx=>!x.1) && (backToKw eL (keywordEach [] X.env)).all (λx=>x.1.isSome)
   && decide ((e :: es).length + ([]:List Keyword).length + (if ([]:List Keyword).isEmpty then 0 else 1) < 30))=true)(fH:(apos.endLine==eL.line)=true)(hs:starEach (e::es) X.env=(false,eval e X.env)::starEach es X.env)(fe:(backTo eL (starEach es X.env)).any (·.1)=false) :
  PE X (.Call (.Attribute o "index" apos) (e::es) [] eL) (bH2 X.K to t):=by
 intro pi s Z H Q I h;refine wpAny_Call_method_late fI kR fH rfl (cE (ho pi s Z H _ I h) λv s1 bp=>?_);let#[x,H1,I1,r1,q1]:=bp;let#[a,xs,rfl,hq,q1]:=q1
 ·cases r1;let#[aU,rv,pl,hz]:=I1.list hq;have pt:=pl.isList.typeIs;let#[ob,k,e1,_,e2,_]:=id pl;refine#["list","list.index",F.plainAttrs_list,F.slot_list_index,F.type_list_index,pt,λb q=>by cases q;exact#[ob,e1,e2],?_];have hA:=ha eL pi s1 Z H1 _ I1 q1;rw[hs] at hA ⊢;refine jD (by show(false||(backTo eL (starEach es X.env)).any (·.1))=false;rw[fe]<;>rfl) (kF ?_);exact cE hA (by rintro us s2 ⟨vs,H2,I2,r2,q2⟩;exact Xf hu pi s2 Z H2 (.ref a) vs (.ref a) us Q I2 rfl r2 q2)
abbrev XT(K:PySem.W.Frag):V->V->Hp->VK->Prop:=λx y H Q=>(∃i j,x=.int i/\y=.int j/\Q (.int (i+j)) H) \/
 ∃a b xs ys,x=.ref a/\y=.ref b/\ig K H a xs/\ig K H b ys/\xs.length+ys.length<=sizeLine/\(xs=[]->Q (.ref b) H)/\(ys=[]->Q (.ref a) H)/\(∀p,H p=none->Q (.ref p) (upd H p (.tup (xs++ys))))
def Mq:DO X .Add (XT X.K):=by
 rintro pi s Z H x y u v Q I rx ry h;rcases h with h|⟨a,b,xs,ys,rfl,rfl,ha,hb,hz,q0,q1,q2⟩
 ·exact YR pi s Z H x y u v Q I rx ry h
 ·cases rx;cases ry;let#[aU,r1,p1,_]:=I.tuple ha;let#[mQ,r2,p2,_]:=I.tuple hb;refine HT.UW p1 p2 (λz=>#[.ref b,H,I,rfl,q0 (r1.uM.mp z)]) (λz=>#[.ref a,H,I,rfl,q1 (r2.uM.mp z)]) ?_ (by rw[<- r1.length,<- r2.length];exact hz);refine#[.ref s⁻¹,_,I.laid (t':=s.toks) (o:=.tup (xs++ys)) (λb ob q=>aj _ q) (av _) ?_,rfl,q2 _ (I.bJ.fresh (av _))];exact#[by rw[dI];exact hz,_,r1.append r2,P7.new _ _]
end
end L2
namespace ST
open PySem PyProof.Rows
abbrev Spot(k:Int):Prop:=0<=k/\k<8
structure Own(mask:Nat)(owner:Array (Option Nat))(pre:List Int):Prop where
 sz:owner.size=mask+1
 fwd:∀(i:Nat) (k:Int),pre[i]?=some k->owner[k.toNat]?=some (some i)
 bwd:∀(j i:Nat),owner[j]?=some (some i)->pre[i]?=some (j:Int)
section
variable{prog:Program}{w:World}{a:Addr}
abbrev SK(prog:Program)(w:World)(h:Heap)(a:Addr)(ks:List Int):Prop :=
 ∃o es ep t,h.get? a=some o/\o.ExactSet/\o.data=.set es ep t/\ElemsOf (intKind prog w) es.toList/\(es.toList.map λe=>toI e.2).Perm ks/\ks.Nodup/\es.size<scanBound/\t.fits es.size=true/\Well (Led w) t/\(ks=[]->7<=t.mask)
def w9.toV{h}{ks}(x:w9 prog w h a ks)(hn:ks≠[]):SK prog w h a ks:=by
 let#[o,es,ep,t,h1,h2,h3,h4,h5,h6,h7,h8,h9]:=x;exact#[o,es,ep,t,h1,h2,h3,h4,h5,h6,h7,h8,h9,λz=>absurd z hn]
def w9.same{h}{ks us}(x:w9 prog w h a ks)(hp:ks.Perm us):w9 prog w h a us:=by
 let#[o,es,ep,t,h1,h2,h3,h4,h5,h6,h7]:=x;exact#[o,es,ep,t,h1,h2,h3,h4,h5.trans hp,hp.nodup_iff.mp h6,h7]
def above:∀n,n<300->7<SetTable.sizeAbove n/\n<SetTable.sizeAbove n/\SetTable.sizeAbove n<=sizeLine:=by decide +kernel
end
end ST
namespace L2
open PySem PySem.Spec PyProof.Rows
variable{X:Cx}
end L2
namespace ST
open PySem PyProof.Rows
def aG6:typeLookup (.type "dict") "__len__"=pure (some (.builtin "dict.__len__")):=by rfl
section
variable{prog:Program}{w:World}{A:Around}{E:Value->Shared->Prop}{s:Shared}{a:Addr}{ep:Nat}{K:Type}[DecidableEq K]{knd:PySem.KeyKind prog w K}{kvs:List (K×Value)}
def aP6(hh:A.handled=none)(hd:(a==sysModules)=false)(hm:s.heap.DictAt knd a kvs ep)(hz:kvs.length<=10000){Q}(h:∀(vs:List Value) h' jv,vs.length=kvs.length->(∀(i:Nat) v,vs[i]?=some v->∃k x,kvs[i]?=some (k,x)/\knd.is k v=true)->(∀c o,s.heap.get? c=some o->h'.get? c=some o)->s⁻¹<=h'.objs.size->s.toks<=jv->Q vs { s with heap:=h',toks:=jv }) :
  wpAny (model prog w) A (collect (.ref a)) Q E s:=by
 have dO:a<s⁻¹:=hm.lt_size;refine ae (AJ (dy F.entry_proto_collect ?_));refine ae (bW ?_);refine ak #[gn F.plain_list_iadd _,dy F.entry_list_iadd ?_];have oa:=hm.push { cls:=.type "list",data:=.seq ([]:List Value).toArray };have Cs:(s.heap.push { cls:=.type "list",data:=.seq ([]:List Value).toArray }).get? s⁻¹=some { cls:=.type "list",data:=.seq ([]:List Value).toArray }:=aB _ rfl;have fM:s⁻¹≠a:=bI dO;have h1:Builtin.List.listSameRef (.ref s⁻¹) (.ref a)=false:=by simp[Builtin.List.listSameRef,fM]
 change wpAny _ A.in1 (Builtin.List.listExtendWith (.ref s⁻¹) (.ref a) (.ref s⁻¹)) _ _ _;refine ae (dB (s:={ s with heap:=_ }) oa.dictOf.typeIs ?_);rw[az (by rw[h1];decide)];refine ae (wpAny_pyIter_dict (s:={ s with heap:=_ }) hd oa ?_);have la:s⁻¹<(s.heap.push { cls:=.type "list",data:=.seq ([]:List Value).toArray }).objs.size:=by simp
 have RK:((s.heap.push { cls:=.type "list",data:=.seq ([]:List Value).toArray }).push { cls:=.type "dict_keyiterator",data:=.fields (List.toArray [.ref a,.int 0 0,.int kvs.length 0,.int ep 0]) }).IsKeyIter (s.heap.push { cls:=.type "list",data:=.seq ([]:List Value).toArray }).objs.size a 0 kvs.length ep:=#[_,aB _ rfl,rfl,rfl]
 have pC:=oa.push { cls:=.type "dict_keyiterator",data:=.fields (List.toArray [.ref a,.int 0 0,.int kvs.length 0,.int ep 0]) };have he:∀c o,(s.heap.push { cls:=.type "list",data:=.seq ([]:List Value).toArray }).get? c=some o->((s.heap.push { cls:=.type "list",data:=.seq ([]:List Value).toArray }).push { cls:=.type "dict_keyiterator",data:=.fields (List.toArray [.ref a,.int 0 0,.int kvs.length 0,.int ep 0]) }).get? c=some o:=λc o e=>aj _ e;have qx:=he _ _ Cs;generalize ((s.heap.push { cls:=.type "list",data:=.seq ([]:List Value).toArray }).push { cls:=.type "dict_keyiterator",data:=.fields (List.toArray [.ref a,.int 0 0,.int kvs.length 0,.int ep 0]) })=h2 at *;generalize hI':(s.heap.push { cls:=.type "list",data:=.seq ([]:List Value).toArray }).objs.size=I at *;refine ae (bB ?_);refine ae (wpAny_specialOf (s:={ s with heap:=h2 }) pC.dictOf.typeIs aG6 ?_);generalize wg:("dict.__len__":String)=Bx;dsimp only;rw[show splitId Bx=some ("dict","__len__") from by subst wg;decide +kernel];dsimp only;refine ae (gg (s:={ s with heap:=h2 }) (b:=true) pC.dictOf.typeIs (by rfl) ?_);rw[az ∅];subst wg;rw[aH #[]];refine ae (dB (s:={ s with heap:=h2 }) pC.dictOf.typeIs ?_);refine ak ?_;rw[aH #[]];refine ae (gf ?_);refine ae ?_;change wpAny _ A.in1 (updateSeq s⁻¹ (·.push .none) >>= λ_=>updateSeq s⁻¹ (·.pop)) _ _ _;refine ae (jP (s:={ s with heap:=h2 }) qx rfl ?_);have wA:=bc (Obj.mapSeq (·.push Value.none)) qx rfl;refine jP (s:={ s with heap:=_ }) wA rfl ?_;have Cr:=bc (Obj.mapSeq (·.pop)) wA rfl;have vz:∀c o,c≠s⁻¹->h2.get? c=some o->((h2.update s⁻¹ (Obj.mapSeq (·.push Value.none))).update s⁻¹ (Obj.mapSeq (·.pop))).get? c=some o :=
  λc o hc e=>(cw _ _ (aZ hc)).trans ((cw _ _ (aZ hc)).trans e)
 have RH:I≠s⁻¹:=bI la;have RD:a≠I:=aN (cR dO la);have W:=(Walks.dictKeys (prog:=prog) (w:=w) (A:=A.in1) (knd:=knd) hh I a RD kvs ep).toS;have st:h2.IsKeyIter I a 0 kvs.length ep/\h2.DictAt knd a kvs ep:=#[RK,pC]
 have jj:=W.frame 0 ({ s with heap:=h2 }:Shared) _ s.toks st (av _) λc hc o e=>vz c o (λz=>by simp at hc;rcases hc with y|y<;>simp_all) e;refine ak #[gn F.plain_extend_loop _,codeAny_extend_loopS W (aD hz ∅) _ (λz=>by simp at z;rcases z with y|y<;>simp_all) _ kvs.length 0 _ _ _ rfl (bO _) jj Cr (ItemsOf.nil _) λs' tD c' hm lA jr=>?_];change wpAny _ A (load s⁻¹ >>= _) _ _ s';refine ae (wpAny_load lA ?_);refine ak ?_;have eS:s'={ s with heap:=s'.heap,toks:=s'.toks }:=by
  let#[iu,g',d',jv,rO]:=s';have m1:g'=s.gens:=hm.gens;have m2:d'=s.drawn:=hm.drawn;have m3:rO=s.os:=hm.os
  grind
 rw[eS];refine h _ _ s'.toks (by simpa using jr.1) (λi v hv=>jr.2 i v (by simpa using hv)) (λc o e=>?_) (dk (aC lA)) hm.toks;have hc:c<s⁻¹:=aC e;have n1:c≠s⁻¹:=aN hc;have n2:c≠I:=aN (cR hc la);exact hm.heap c o (by simp[n1,n2]) (vz c o n1 (he c o (aj _ e)))
def bC5{i}{v}(h:(L2.m4 prog w).is (.inl i) v=true):∃t,v=.int i t:=by
 rw[L2.Ld] at h;rcases L2.u2 h with⟨j,t,e1,e2⟩|⟨x,t,e1,_⟩
 ·cases e1;exact#[t,e2]
 ·cases e1
def aR7{kvs}{ns:List Int}(hh:A.handled=none)(hd:(a==sysModules)=false)(hm:s.heap.DictAt (L2.m4 prog w) a kvs ep)(hk:kvs.map (·.1)=ns.map Sum.inl)(IC:ns.length<64){Q:Value->Shared->Prop}(h:∀(S:Addr) (vs:List Value) (jH:List Int) e h' jv,IntsAre vs jH->jH.Perm ns->jH.Pairwise (·<=·)->h'.get? S=some (seqObj "list" vs.toArray e)->s⁻¹<=S->(∀c o,s.heap.get? c=some o->h'.get? c=some o)->s.toks<=jv->Q (.ref S) { s with heap:=h',toks:=jv }) :
  wpAny (model prog w) A (call (.builtin "sorted") [.ref a]) Q E s:=by
 have hl:kvs.length=ns.length:=by simpa using cT List.length hk
 refine iB kind_sorted plain_sorted entry_sorted (args_sorted1 _) ?_;refine ae (m:=checkCount "sorted" 1 1 _) (ak ?_);refine ae (aP6 (A:=A.in1) hh hd hm () λvs h1 rB HP hv he la tV=>?_);have hI:IntsAre vs ns:=by
  have all:∀(i:Nat) v,vs[i]?=some v->∃n tk,ns[i]?=some n/\v=.int n tk:=λi v e=>by
   let#[k,x,h1,h2]:=hv i v e;have h3:(kvs.map (·.1))[i]?=some k:=by rw[ah,h1];rfl
   rw[hk,ah,aa] at h3;let#[n,h4,rfl]:=h3;let#[tk,e]:=bC5 h2;exact#[n,tk,h4,e]
  have vY:vs.length=ns.length:=HP.trans hl;clear hv HP hl hk h
  induction vs generalizing ns with
  |nil =>
   cases ns with
   |nil=>exact .nil
   |cons=>simp at vY
  |cons v r ih =>
   cases ns with
   |nil=>simp at vY
   |cons n ns =>
    let#[n',tk,e1,e2]:=all 0 v rfl;cases e1;rw[e2];exact .cons n tk (ih (by grind) (λi v e=>all (i+1) v e) (by simpa using vY))
 have tZ:vs.length<64:=by omega
 refine ae (Pa (s:={ s with heap:=h1,toks:=rB }) ?_);have lM:(h1.push (seqObj "list" vs.toArray 0)).get? h1.objs.size=some (seqObj "list" vs.toArray 0):=aB _ rfl;refine ae (bB (bS (s:={ s with heap:=h1.push (seqObj "list" vs.toArray 0),toks:=rB }) slot_list_sort #[_,lM,rfl] entry_list_sort (list_sort_tree lM hI tZ λout jH a1 a2 a3=>#[_,rfl,?_]) (args_list_sort _)));let#[e,sk]:=sortedHeap_at (vs:=vs) (out:=out) lM;refine ak #[_,rfl,h h1.objs.size out.toList jH e _ rB a1 a2 a3 sk la (λc o' e'=>?_) tV];have hc:=aC (he c o' e');rw[sortedHeap_old (aN hc) (by rw[size_push'];exact kz hc)];exact aj _ (he c o' e')
end
end ST
namespace L2
open PySem PySem.Spec PyProof.Rows
variable{X:Cx}
def T7:∀{ns ks:List Int},(ks++ns).Nodup->ST.f9 ks ns=ks++ns
 |[],ks,_=>by simp[ST.f9]
 |n::r,ks,h=>by
  have hn:n∉ks:=λz=>by
   have:=(dn.mp h).2.2 n z n #[_];exact this rfl
  have e:ST.I9 ks n=ks++[n]:=by
   unfold ST.I9;rw[az (by simpa using hn)]
  change ST.f9 (ST.I9 ks n) r=_;rw[e,T7 (by simp_all),gL]
  rfl
def av2(hc:X.calm=true):p9 X (.builtin "sorted") (λxs H Q=>∃a kvs ns,xs=[.ref a]/\H a=some (.dK kvs)/\kvs.map (·.1)=ns.map Sum.inl/\ns.length<60/\∀p,H p=none->Q (.ref p) (upd H p (.lst ((m5 ns).map V.int)))):=by
 intro pi s Z H xs us Q I r h;let#[a,kvs,ns,rfl,ha,hk,hl,q]:=h;cases r with
 |cons r rr =>
 cases rr;cases r;let#[_,hd,vs,kv,hD]:=uv I.bJ ha;let#[ep,hA]:=hD.dictAt;have Ia:vs.map (·.1)=ns.map Sum.inl:=kv.keys.symm.trans hk;have QS:ns.Nodup:=by
  let#[_,_,_,_,_,_,_,_,nd]:=id hD;rw[Ia] at nd;exact(cF.mp nd).imp λh e=>h (cT _ e)
 refine ST.aR7 (I.ok.hd hc) hd hA Ia () λS us jH e h' jv h1 h2 h3 h4 h5 h6 _=>?_;have e1:jH=m5 ns:=Q8 (h2.trans ((K5 ns).trans (by rw[T7 (ks:=[]) QS];exact .refl _)).symm) h3 (EZ ns);subst e1;have hz:=Q6 ns;exact#[.ref S,_,(I.laid (a:=S) (o:=.lst ((m5 ns).map V.int)) (t':=jv) h6 h5 #[by rw[ai];exact aD hz (aD (dk hl) ∅),us,e,Fb h1,h4]),rfl,q S (I.bJ.fresh h5)]
def aS5{aU}{ns}(hi:IntsAre aU ns):∃xs,aU.toArray=intItems xs/\ns=xs.toList.map (·.1):=by
 let#[xs,e]:=hi.allInts.items;exact#[xs,e,by rw[<- hi.numsOf,<- nums_intItems,<- e]]
def WB(hc:X.calm=true):p9 X (.builtin "sum") (λxs H Q=>∃a,∃ns:List Int,xs=[.ref a]/\fq X.K H a (ns.map V.int)/\Q (.int ns.sum) H):=by
 intro pi s Z H xs us Q I r h;let#[a,ns,rfl,ha,q]:=h;let#[u,rfl,ru]:=vals1 r;cases ru;let#[aU,rv,p,hz]:=I.list ha;let#[xs,e,en]:=aS5 (T5 rv);refine sum_intListG (xs:=xs) (I.ok.hd hc) (by rw[<- e];exact p.isList) λh' tk t' k=>#[.int ns.sum,H,I.kept k,#[t',?_],q]
 rw[preSum_eq,ve #[_],en]
def Wz(hc:X.calm=true):p9 X (.builtin "all") (λxs H Q=>∃(a:Addr) (ns:List Int),xs=[.ref a]/\fq X.K H a (ns.map V.int)/\Q (.bl (ns.all λn=>n != 0)) H):=by
 intro pi s Z H xs us Q I r h;let#[a,ns,rfl,ha,q]:=h;let#[u,rfl,ru]:=vals1 r;cases ru;let#[aU,rv,p,hz]:=I.list ha;refine call_all_walk ?_;refine iJ p.isList ?_;have fM:a≠s⁻¹:=by
  let#[o,e,_]:=id p.isList;exact aN (aC e)
 have hl:=rv.length;rw[ai] at hl;refine#[s⁻¹,_,_,_,_,_,λi=>ns.getD i 1 != 0,rfl,Walks.list (A:=X.A.in1) (I.ok.hd hc) _ a fM aU.toArray,#[#[_,aB _ rfl,rfl,rfl],?_],?_,λh' tk k=>?_]
 ·let#[o,e,q1]:=id p.isList;exact#[o,aj _ e,q1]
 ·intro i v s' Q' E' hP hQ;have hv:aU[i]?=some v:=by simpa using hP
  have hi:i<ns.length:=by rw[hl];exact(aw.mp hv).1
  let#[u',vQ,Bi]:=rv.get (i:=i) (x:=V.int ns[i]) (by rw[ah,au hi];rfl);rw[hv] at vQ;cases vQ;let#[t,rfl]:=Bi;refine truthy_int ?_;have:ns.getD i 1=ns[i]:=by simp[List.getD,hi]
  dsimp only at hQ;rw[this] at hQ;exact hQ
 ·have e1:(List.range aU.toArray.size).all (λi=>ns.getD i 1 != 0)=ns.all λn=>n != 0:=by
   rw[aQ,<- hl];rw[bf];simp only[List.all_eq_true,List.mem_range];constructor
   ·intro hh x hx;let#[i,hi,rfl]:=dq.mp hx;have:=hh i hi;simpa[List.getD,hi] using this
   ·intro hh i hi;have:=hh ns[i] (cj hi);simpa[List.getD,hi] using this
  rw[e1];exact #[.bl _,H,I.kept (t':=tk) λb o e=>k b o (by
   intro hb;have:b=s⁻¹:=by simpa using hb
   exact absurd (aC e) (by rw [this];exact bL _)) (aj _ e),rfl,q]
def aH3:p9 X (.builtin "len") (λxs H Q=>∃a,∃ks:List Int,xs=[.ref a]/\H a=some (sW X a ks)/\Q (.int ks.length) H):=by
 intro pi s Z H xs us Q I r h;let#[a,ks,rfl,ha,q]:=h;let#[u,rfl,ru]:=vals1 r;cases ru;have hS:ST.w9 X.prog X.w s.heap a ks:=(I.bJ a _ ha).1;let#[o,es,ep,t,e,ex,ed,_,hp,nd,hz,hf,_]:=hS;have hl:es.size=ks.length:=by have:=hp.length_eq;simpa using this
 refine call_len_set e ex ed hf (by have:scanBound<2 ^ 62:=∅;omega) #[.int ks.length,H,I.tok _,#[_,by rw[hl]],q]
def Tf{i}{j}{p pos}(mY:PySem.W.kdsCode X.K X.env.code=true):PE X (.Set [.Constant (.int i) j p] 0 pos) (λZ H Q=>∀q,H q=none->Q (.ref q) (upd H q (.set (λk=>decide (k=i)) 1))):=by
 intro pi s Z H Q I h;refine ae (cZ ?_);refine ae (PySem.W.kds_main I.gA mY λb=>?_);refine PySem.W.kds_core (ts:=(evalEach [Expr.Constant (.int i) j p] X.env).map λt=>do let v <- t;standAt pos;pure v) (by rfl) (by rfl) (by change 1<=30;decide) (by rfl) λled=>?_;refine PySem.W.kds_all pos _ _ _ ?_;refine wpAny_Constant_int ?_;refine PySem.W.kds_fill_cons ?_;have RI:(s.heap.push { cls:=.type "set",dict:=none,data:=.set (List.toArray []) 0 (.fresh 0 0 led) }).SetOf (intKind X.prog X.w) s⁻¹ (λ_=>false) 0:=(setObjOf_fresh led).setOf (aB _ rfl) ∅;refine bB (ae ((intKind X.prog X.w).pyHash (k:=i) (eO _ _ _ _) ?_));refine wpAny_setAddHashed_of (knd:=intKind X.prog X.w) (eO _ _ _ _) rfl RI ∅ λh' tX lA=>?_;refine PySem.W.kds_fill_nil (by rfl) ?_;have kp:∀b u,s.heap.get? b=some u->h'.get? b=some u:=λb u e=>(tX.2 b (aN (aC e))).trans (aj _ e);exact#[.ref s⁻¹,_,I.laid (a:=s⁻¹) (o:=.set (λk=>decide (k=i)) 1) kp (av _) (by change Heap.SetOf _ _ _ _ _;simpa using lA),rfl,h _ (I.bJ.fresh (av _))]
def Xj:fP X (compareOp .In) (λx y H Q=>∃i a S n,x=.int i/\y=.ref a/\H a=some (.set S n)/\Q (.bl (S i)) H):=by
 intro pi s Z H x y v u Q I rx ry h;let#[i,a,S,n,rfl,rfl,ha,q]:=h;let#[t,rfl]:=rx;cases ry;exact wpAny_inSet_of (knd:=intKind X.prog X.w) (k:=i) (eO _ _ _ _) rfl (I.bJ a _ ha) #[.bl (S i),H,I.tok _,rfl,q]
def aM7:fP X (compareOp .NotIn) (λx y H Q=>∃i a S n,x=.int i/\y=.ref a/\H a=some (.set S n)/\Q (.bl (!S i)) H):=by
 intro pi s Z H x y v u Q I rx ry h;let#[i,a,S,n,rfl,rfl,ha,q]:=h;let#[t,rfl]:=rx;cases ry;exact wpAny_notInSet_of (knd:=intKind X.prog X.w) (k:=i) (eO _ _ _ _) rfl (I.bJ a _ ha) #[.bl (!S i),H,I.tok _,rfl,q]
def a14:lE X "set.add" (λx xs H Q=>∃a i S n,x=.ref a/\xs=[.int i]/\H a=some (.set S n)/\n+1<4096/\Q .br (upd H a (.set (λk=>S k||decide (k=i)) (if S i then n else n+1)))):=by
 intro pi s Z H x vs v us Q I rx rv h;let#[a,i,S,n,rfl,rfl,ha,hn,q]:=h;cases rx;let#[u,rfl,t,rfl]:=rv.one;refine call_set_add (knd:=intKind X.prog X.w) (k:=i) (eO _ _ _ _) rfl (I.bJ a _ ha) (show n+1<scanBound from hn) λh' tX lA=>?_;let#[o,es,ep,tb,ho,_]:=id lA;exact#[.br,_,I.write (x:=a) (e:=a) (o:=.set (λk=>S k||decide (k=i)) (if S i then n else n+1)) (by rw[ha];trivial) (.inl rfl) (λb u hb e=>(tX.2 b hb).trans e) #[o,ho] lA,rfl,q]
abbrev GO(K:PySem.W.Frag)(a:Addr)(n:Nat):It :=
 #[λi H=>∃xs x,fq K H a xs/\xs.length=n/\i<n/\xs[n-1-i]?=some x,λi H x H'=>H'=H/\∀xs,fq K H a xs->xs[n-1-i]?=some x,λi H=>n<=i]
def Wl{P}{w}{K}{tg}(a it:Addr)(n:Nat):Turn P w K tg (GO K a n) [it] it (λi h=>i<=n/\h.IsRevIter it a ((n:Int)-1-(i:Nat))) where
 mem:=by simp
 obj:=λi h st b hb=>by
  have e:b=it:=by simpa using hb
  subst e;let#[o,e,c,d]:=st.2;exact#[o,e,λv z=>by simp_all]
 keep:=λi h h' st k=>#[st.1,st.2.at λo e=>k it #[_] o e]
 item:=by
  intro X hP hw hK hc i pi s Z H E I hf st hg;subst hP hw hK;let#[xs,x,hq,hn,hi,hx]:=hg;let#[aU,rv,p,hz]:=I.list hq;let#[u,hu,ru]:=rv.get hx;let#[f0,f1,f2,f3,f4,f5]:=hf it #[_];have jj:=st.2;rw[show(n:Int)-1-(i:Nat)=((n-1-i:Nat):Int) by omega] at jj;refine wpAny_pyNext_rev_item jj p.isList (x:=u) (by simpa using hu) λh' lX sb=>?_;have I1:Inv X pi Z H { s with heap:=h' }:=I.turned (t':=s.toks) (λb o hb e=>(sb.2 b hb).trans e) f0 f1 f3 f4 f5;let#[o,e,c,d]:=id lX;refine#[u,rfl,Al (s:={ s with heap:=h' }) e c d ∅ #[x,H,I1,ru,#[rfl,λys hy=>by rw[I.En hy hq];exact hx],#[by omega,?_],λb hb=>(hf b hb).1]]
  grind
 done:=by
  intro X hP hw hK hc i pi s Z H E I hf st hg;let#[f0,f1,f2,f3,f4,f5]:=hf it #[_];have jj:=st.2;have:n<=i:=hg;rw[show(n:Int)-1-(i:Nat)=-1 by omega] at jj;exact wpAny_pyNext_rev_end (I.ok.hd hc) jj λh' eb=>#[rfl,I.turned (t':=s.toks) (λb o hb e=>eb b o hb e) f0 f1 f3 f4 f5]
 self:=λ_ _ _ _ _ st h=>wpAny_pyIter_revIter st.2 h
def boot_reversed:bootBuiltins "reversed"=some (.type "reversed"):=by decide +kernel
def ZL{tg l}{ta}{p pos}(hg:Gl X "reversed")(hm:X.mg "reversed"=none)(ha:PA X [l] ta)(hs:starEach [l] X.env=[(false,eval l X.env)]) :
  PI X tg (.Call (.Name "reversed" p) [l] [] pos) (λZ H R=>ta Z H λvs H1=>∃a xs,vs=[.ref a]/\fq X.K H1 a xs/\R (GO X.K a xs.length) H1):=by
 intro pi s Z H R I h;refine Call_ (T4 I hg hm boot_reversed (bR (cE (ha pos pi s Z H _ I h) λus s1 bp=>?_) hs rfl));let#[vs,H1,I1,r1,q1]:=bp;let#[a,xs,e,hq,q]:=q1;subst e;cases r1 with
 |cons r rr =>
  cases rr;cases r;let#[aU,rv,p,hz]:=I1.list hq;refine call_reversed_list p.isList ?_;have hl:=rv.length;have hit:(s1.heap.push (revObj a ((aU.toArray.size:Int)-1))).IsRevIter s1⁻¹ a ((xs.length:Int)-1-((0:Nat):Int)):=#[_,aB _ rfl,rfl,by simp[revObj,hl]]
  refine wpAny_pyIter_revIter hit ?_;refine#[s1⁻¹,[s1⁻¹],_,_,H1,rfl,I1.kept (t':=s1.toks) λb o e=>aj _ e,Wl a _ xs.length,#[bO _,hit],λb hb=>?_,q];have e:b=s1⁻¹:=by simpa using hb
  subst e;exact I1.oz (av _) (I1.bJ.fresh (av _))
end L2
namespace ST
open PySem PyProof.Rows
section
variable{prog:Program}{w:World}{A:Around}{E:Value->Shared->Prop}{s:Shared}{a:Addr}
def a01{T}{o}{items}{n}{ns}(hT:T="list"\/T="tuple")(ho:s.heap.get? a=some o)(hc:o.cls=.type T)(hd:o.data=.seq items n)(hI:IntsAre items.toList ns)(IC:ns.length<60){Q}(h:∀(h1:Heap) (vs:List Value) (jH:List Int) e h',(∀b o',s.heap.get? b=some o'->h1.get? b=some o')->IntsAre vs jH->jH.Perm ns->jH.Pairwise (·<=·)->h'.get? h1.objs.size=some (seqObj "list" vs.toArray e)->(∀c o,h1.get? c=some o->h'.get? c=some o)->Q (.ref h1.objs.size) { s with heap:=h' }) :
  wpAny (model prog w) A (call (.builtin "sorted") [.ref a]) Q E s:=by
 have hl:items.toList.length=ns.length:=zF hI;refine iB kind_sorted plain_sorted entry_sorted (args_sorted1 _) ?_;unfold Builtin.«sorted»;refine ae (m:=checkCount "sorted" 1 1 _) (ak ?_);refine ae (wpAny_collect_seq (A:=A.in1) a hT ho hc hd (λh1 kp=>?_) (by simp at hl;unfold sizeLine;omega));have tZ:items.toList.length<64:=by omega
 generalize items.toList=vs at *;refine ae (Pa (s:={ s with heap:=h1 }) ?_);have lM:(h1.push (seqObj "list" vs.toArray 0)).get? h1.objs.size=some (seqObj "list" vs.toArray 0):=aB _ rfl;refine ae (bB (bS (s:={ s with heap:=h1.push (seqObj "list" vs.toArray 0) }) slot_list_sort #[_,lM,rfl] entry_list_sort (list_sort_tree lM hI tZ λout jH a1 a2 a3=>#[_,rfl,?_]) (args_list_sort _)));let#[e,sk]:=sortedHeap_at (vs:=vs) (out:=out) lM;refine ak #[_,rfl,h h1 out.toList jH e _ kp a1 a2 a3 sk (λc o' e'=>?_)];have hc:=aC e';rw[sortedHeap_old (aN hc) (by rw[size_push'];exact kz hc)];exact aj _ e'
end
end ST
namespace L2
open PySem PyProof.Rows
abbrev S0(ns:List Int):List Int:=ns.mergeSort (λa b=>decide (a<=b))
def Lm(ns:List Int):(S0 ns).Pairwise (·<=·):=by
 have:=tL (le:=λa b:Int=>decide (a<=b)) (λa b c h1 h2=>by simp at *;omega) (λa b=>by simp;omega) ns;exact this.imp λh=>by simpa using h
def EY(ns:List Int):(S0 ns).Perm ns:=Hb _ _
section
variable{X:Cx}
def aC2:p9 X (.builtin "sorted") (λxs H Q=>∃p,∃ns:List Int,xs=[.ref p]/\(fq X.K H p (ns.map V.int)\/ig X.K H p (ns.map V.int))/\ns.length<60/\∀l,H l=none->Q (.ref l) (upd H l (.lst ((S0 ns).map V.int)))):=by
 intro pi s Z H xs us Q I r h;let#[p,ns,rfl,hq,hl,q]:=h;let#[u,rfl,rx]:=vals1 r;cases rx;obtain⟨T,aU,o,n,hT,r',ho,hc,hd⟩:∃T,∃(aU:List Value) (o:Obj) (n:Nat),(T="list"\/T="tuple")/\Vals (ns.map V.int) aU/\s.heap.get? p=some o/\o.cls=.type T/\o.data=.seq aU.toArray n:=by
  rcases hq with hq|hq
  ·let#[aU,r',pl,_]:=I.list hq;let#[o,ho,hc,n,hd]:=pl.isList;exact#[_,aU,o,n,.inl rfl,r',ho,hc,hd]
  ·let#[aU,r',#[o,ho,hc,n,hd],_]:=I.tuple hq;exact#[_,aU,o,n,.inr rfl,r',ho,hc,hd]
 refine ST.a01 hT ho hc hd (T5 r') hl λh1 vs jH e h' kp i1 i2 i3 i4 i5=>?_;have e1:jH=S0 ns:=Q8 (i2.trans (EY ns).symm) i3 (Lm ns);subst e1;have I1:Inv X pi Z H { s with heap:=h1 }:=I.kept (t':=s.toks) kp;have hz:(S0 ns).length<=10000:=by rw[(EY ns).length_eq];omega
 exact#[.ref h1.objs.size,_,(I1.laid (a:=h1.objs.size) (o:=.lst ((S0 ns).map V.int)) (t':=s.toks) i5 (av _) #[by rw[ai];exact aD hz ∅,vs,e,Fb i1,i4]),rfl,q _ (I1.bJ.fresh (av _))]
def Ot:∀{ks:List Key} {l:List Value},l.length=ks.length->(∀(i:Nat) v,l[i]?=some v->∃k,ks[i]?=some k/\qU k v=true)->Vals (ks.map kV) l
 |[],[],_,_=>.nil
 |k::ks,v::l,hl,h=>by
  let#[k',e,hk]:=h 0 v rfl;cases e;refine .cons ?_ (Ot (by simpa using hl) λi v e=>h (i+1) v e);rcases u2 hk with⟨i,t,rfl,rfl⟩|⟨x,t,rfl,rfl⟩<;>exact#[t,rfl]
def aC3(hc:X.calm=true):p9 X (.type "list") (λxs H Q=>∃a kvs,xs=[.ref a]/\H a=some (.dK kvs)/\kvs.length<=10000/\∀p,H p=none->Q (.ref p) (upd H p (.lst ((kvs.map (·.1)).map kV)))):=by
 intro pi s Z H xs us Q I r h;let#[a,kvs,rfl,ha,hl,q]:=h;let#[u,rfl,rx]:=vals1 r;cases rx;let#[_,hd,vs,kv,hD]:=uv I.bJ ha;let#[ep,hA]:=hD.dictAt;have tZ:vs.length<=10000:=by rw[<- kv.length];exact hl
 refine PySem.W.kdl_call (PySem.W.kdl_dict (kvs:=vs) (ep:=ep) hd) (I.ok.hd hc) hA (aD tZ ∅) λh' tk acc c k1 k2 k3=>?_;have hv:Vals ((kvs.map (·.1)).map kV) acc.toList:=by
  refine Ot (by rw[eJ,k3.1,ai,kv.length]) λi v e=>?_;let#[k,x,e1,e2]:=k3.2 i v (by simpa using e);exact#[k,by rw[kv.keys,ah,e1];rfl,e2]
 exact#[.ref s⁻¹,_,(I.laid (a:=s⁻¹) (o:=.lst ((kvs.map (·.1)).map kV)) (t':=tk) k1 (av _) #[by rw[ai,ai];exact aD hl ∅,acc.toList,c,hv,by simpa using k2]),rfl,q _ (I.bJ.fresh (av _))]
end
end L2
namespace ST
open PySem PyProof.Rows
end ST
namespace L2
open PySem PyProof.Rows
section
variable{X:Cx}
def TN{h}{a}{ns}(x:ST.w9 X.prog X.w h a (ST.f9 [] ns)):h.SetOf (intKind X.prog X.w) a (λk=>decide (k∈ns)) (ST.f9 [] ns).length:=by
 let#[o,es,ep,t,ho,hx,hd,mX,hp,hn,hb,hf,hw]:=x;refine#[o,es,ep,t,ho,hx,hd,mX,λk=>?_,hb,hf,by rw[<- hp.length_eq];simp];have mem:k∈ns↔k∈es.toList.map λe=>ST.toI e.2:=by rw[hp.mem_iff,ST.Z2];simp
 rw[cK,mem];constructor
 ·intro z;let#[e,he,rfl]:=ao.mp z;let#[tk,h1,_]:=ST.zx mX he;refine#[e,he,?_];rw[h1];exact eO _ _ _ _
 ·rintro⟨e,he,z⟩;let#[tk,h1,_]:=ST.zx mX he;refine ao.mpr #[e,he,?_];have h2:(intKind X.prog X.w).is (ST.toI e.2) e.2=true:=by rw[h1];exact eO _ _ _ _
  exact(intKind X.prog X.w).inj _ _ _ h2 z
def aH2(hc:X.calm=true):p9 X (.type "set") (λxs H Q=>∃a ns,xs=[.ref a]/\fq X.K H a (ns.map V.int)/\ns.length<600/\∀p,H p=none->Q (.ref p) (upd H p (.set (λk=>decide (k∈ns)) (ST.f9 [] ns).length))):=by
 intro pi s Z H xs us Q I r h;let#[a,ns,rfl,hq,hl,q]:=h;cases r with
 |cons r rr =>
 cases rr;cases r;let#[aU,rv,p,hz]:=I.list hq;have hI:=T5 rv;have hlen:=ST.zF hI;refine ST.Nc (ns:=ns) (I.ok.hd hc) (.inl p.isList) (by simpa using hI) (by rw[aQ,hlen];exact ay (Nat.succ_lt_succ hl) ∅) λh' tk hS hk _=>?_;exact#[.ref _,_,I.laid (a:=s⁻¹) (o:=.set (λk=>decide (k∈ns)) (ST.f9 [] ns).length) (t':=tk) hk (av _) (TN hS),rfl,q _ (I.bJ.fresh (av _))]
end
end L2
namespace L2
open PySem PySem.Spec PyProof.Rows
variable{prog:Program}{w:World}{A:Around}{s:Shared}{kx vx iter tg:Expr}{ifs:List Expr}{scope:Scope}{pos:Pos}{X:Cx}{N':List Str}{d6:List Nat}{g:TG}{tc:TT}{tk tv:TE}
section
variable{R:Result->Shared->Prop}
def aH0{target}{it}{D}{env}(I:Nat->Shared->Prop)(turn:∀ n s,I n s->wpAny (model prog w) A (pyNext it) (λr bz=>match r with
   |none=>R (.ok .next) bz
   | some v=>wpAny (model prog w) A (letOwnedTupleGo target it v) (λ_ bz=>wpAny (model prog w) A (assign target env v) (λ_ eT =>
     wpAny (model prog w) A (forIn ifs true λc r=>if r=true then do let ok <- isTrue c env (eval c env);pure (ForInStep.yield ok) else pure (ForInStep.yield r)) (λok dQ =>
      if ok=true then wpAny (model prog w) A (eval kx env) (λkv fG=>wpAny (model prog w) A (eval vx env) (λvv gx =>
       wpAny (model prog w) A (dictSet D kv vv) (λ_ oW=>∃ m,m < n/\I m oW) (λ_ _=>False) gx) (λ_ _=>False) fG) (λ_ _=>False) dQ
      else ∃ m,m < n/\I m dQ) (λ_ _=>False) eT) (λ_ _=>False) bz) (λ_ _=>False) bz) (λ_ _=>False) s)(n:Nat)(h:I n s) :
  codeAny (model prog w) A (.compLoop (.DictComp kx vx [#[target,iter,ifs,0]] scope pos) 0 it (.ref D) env) R s:=by
 refine codeAny_loop rfl I (λn s hI=>?_) n h;change wpAny _ A ((compTurn (.DictComp kx vx [#[target,iter,ifs,0]] scope pos) 0 it (.ref D) env).onRaise (λx=>do noteFrame x env;theTreesLotGoes x)) _ _ s;refine wpAny_noted ?_;rw[compTurn_dict];refine ae (cZ (ae (aY (turn n s hI) (λr bz cM=>?_) λ_ _ h'=>h'.elim)));cases r with
 |none=>exact ak cM
 |some v =>
  refine ae (aY cM (λ_ bz cM=>?_) λ_ _ h'=>h'.elim);refine ae (aY cM (λ_ eT gj=>ae (aY gj (λok dQ kf=>?_) λ_ _ h'=>h'.elim)) λ_ _ h'=>h'.elim);cases ok with
  |false=>exact wpAny_pure #[rfl,kf]
  |true =>
   exact ae (ae (aY kf (λkv fG mS=>ae (bB (aY mS (λvv gx mR=>ae (cZ (bB (aY mR (λ_ oW Bz=>ak #[rfl,Bz]) λ_ _ h'=>h'.elim)))) λ_ _ h'=>h'.elim))) λ_ _ h'=>h'.elim))
end
abbrev OI(wi:TI)(d6:List Nat)(n:Nat)(g:TG)(tc:TT)(tk tv:TE):TE:=λZ H Q=>wi Z H λJ H1=>∃W:Nat->Nat->List (Key×V)->St->Hp->Prop,(∃m,W 0 m [] (C9 Z d6 n) H1)/\∀i m ys Z H,W i m ys Z H ->
 (J.stop i H/\∀p,H p=none->Q (.ref p) (upd H p (.dK ys))) \/
 (J.go i H/\ys.length < 1000/\∀ x H',J.nJ i H x H'->g x Z H' λcz H2=>tc cz H2 λb H3 =>
  if b=true then tk cz H3 λy H4=>∃ k,y=kV k/\tv cz H4 λv H5=>∃ m',m' < m/\W (i + 1) m' (putK ys k v) cz H5 else ∃ m',m' < m/\W (i + 1) m' ys cz H3)
def U7{P}{k}{u}(h:(m4 P w).is k u=true):RelV (kV k) u:=by
 rw[Ld] at h;rcases u2 h with⟨j,t,e1,e2⟩|⟨x,t,e1,e2⟩
 ·subst e1 e2;exact#[t,rfl]
 ·subst e1 e2;exact#[t,rfl]
section
variable{pi:List (Addr×Obj)}{Z:St}{H:Hp}
abbrev KDc(X:Cx)(a:Addr)(ys:List (Key×V))(h:Heap)(o:Obj):Prop:=ys.length<=1000/\JT o/\h.get? a=some o/\∃rs,KV ys rs/\h.DictOf (m4 X.prog X.w) a rs
def Np{n0:Nat}(pe:∀D,n0<=D->(D==sysModules)=false):AF X n0 (KDc X) λ_ ys=>.dK ys where
 nc:=λh=>h.2.1
 get:=λh=>h.2.2.1
 J7:=λ⟨h1,h2,h3,rs,h4,h5⟩ e=>#[h1,h2,e,rs,h4,h5.at λo e'=>by rw[h3] at e';cases e';exact e]
 done:=λ{pi Z H s D ys o} hn J4 Dy hs ⟨z3,_,o4,rs,yH,S4⟩=>by
  have K1:=J4.OK (φ:=λh=>h.DictOf (m4 X.prog X.w) D rs) Dy hs #[S4,#[_,o4],λh1 h2 x k=>x.at k];have K2:=V3 (t':=s.toks) (h':=s.heap) (ob:=.dK ys) K1 (by rw[k6];exact True.intro) #[rfl,λ_ _=>rfl] #[_,o4] (xy (aD z3 ∅) (pe D hn) yH S4);have eu:upd (upd H D (.ext λh=>h.DictOf (m4 X.prog X.w) D rs)) D (.dK ys)=upd H D (.dK ys):=funext λb=>by
   by_cases hb:b=D
   ·rw[hb,k6,k6]
   ·rw[d0 hb,d0 hb,d0 hb]
  rw[eu] at K2;exact K2
def Lr{cl:List (Str×Addr)}{it:Addr}{fp:List Addr}{tn:Nat->Heap->Prop}{J:It}{RR:Value->Addr->Result->Shared->Prop}{E:Value->Shared->Prop}{W:Nat->Nat->List (Key×V)->St->Hp->Prop}{m0:Nat}{Q:VK}(S:cC X scope N' d6 cl)(hc:X.calm=true)(hg:∀C s H,PG (f6 X pi scope N' cl C s H fp) tg g)(ht:∀C s H,jy (f6 X pi scope N' cl C s H fp) ifs tc)(hk:∀C s H,PE (f6 X pi scope N' cl C s H fp) kx tk)(hv:∀C s H,PE (f6 X pi scope N' cl C s H fp) vx tv)(I:Inv X pi Z H s)(T:Turn X.prog X.w X.K tg J fp it tn)(st:tn 0 s.heap)(hf:∀b∈fp,K8 X pi H b)(w0:W 0 m0 [] (C9 Z d6 N'.length) H)(turn:∀ i m ys Z H,W i m ys Z H->(J.stop i H/\∀ p,H p=none->Q (.ref p) (upd H p (.dK ys))) \/
   (J.go i H/\ys.length < 1000/\∀ x H',J.nJ i H x H'->g x Z H' λcz H2=>tc cz H2 λb H3 =>
    if b=true then tk cz H3 λy H4=>∃ k,y=kV k/\tv cz H4 λv H5=>∃ m',m' < m/\W (i + 1) m' (putK ys k v) cz H5 else ∃ m',m' < m/\W (i + 1) m' ys cz H3))(pe:∀D,s⁻¹<=D->(D==sysModules)=false)(su:∀D C s' H' m,Inv X pi Z H' s'->Q (.ref D) H'->s'.heap.Ns C m->H' C=none->s⁻¹<=C->RR (.ref D) C (.ok .next) s') :
  wpAny (model X.prog X.w) X.A newDict (λacc dQ=>wpAny (model X.prog X.w) X.A (newFunctionEnv scope X.env.globals cl [] X.env.qual none .none (some X.env)) (λjN fG =>
   codeAny (model X.prog X.w) X.A (.compStart (.DictComp kx vx [#[tg,iter,ifs,0]] scope pos) 0 (.ref it) acc { jN with scope:=relabel scope X.env }) (RR acc jN.locals) fG) E dQ) E s:=by
 refine bW (X9 λcM gk eU mj=>?_);dsimp only at gk eU mj ⊢;have eC:(s.heap.push { cls:=.type "dict",dict:=none,data:=.dict (List.toArray []) }).objs.size=s⁻¹+1:=dM ..
 replace eC:=eC.symm
 have jr:cM.get? s⁻¹=some { cls:=.type "dict",dict:=none,data:=.dict (List.toArray []) }:=eU _ _ (aB _ rfl);have sf:cM.DictOf (m4 X.prog X.w) s⁻¹ []:=(Heap.DictOf.new s.heap).at λo e=>eU _ _ e;generalize (s.heap.push { cls:=.type "dict",dict:=none,data:=.dict (List.toArray []) }).objs.size=C at *;refine (λL=>codeAny_compStart_dict L.2 (T.self _ 0 _ _ _ L.1 L.2)) (Ez (R:=RR (.ref s⁻¹) C) (LP:=codeAny (model X.prog X.w) X.A (.compLoop (.DictComp kx vx [#[tg,iter,ifs,0]] scope pos) 0 (.ref it) (.ref s⁻¹) (compEnvC scope (E8 scope cl C) C X.env)) (RR (.ref s⁻¹) C)) (tb:=λys Z H P=>tk Z H λy H'=>∃ k,y=kV k/\tv Z H' λv H''=>P (putK ys k v) H'') (env:=compEnvC scope (E8 scope cl C) C X.env)
  (body:=λP dQ=>wpAny (model X.prog X.w) X.A (eval kx (compEnvC scope (E8 scope cl C) C X.env)) (λkv fG=>wpAny (model X.prog X.w) X.A (eval vx (compEnvC scope (E8 scope cl C) C X.env)) (λvv gx=>wpAny (model X.prog X.w) X.A (dictSet s⁻¹ kv vv) (λ_ oW=>P oW) (λ_ _=>False) gx) (λ_ _=>False) fG) (λ_ _=>False) dQ)
  (Np pe) S hc (hg C s H) (ht C s H) I T st hf w0 turn (λs' H' m=>su _ C s' H' m) #[_,gk] eU mj eC #[bO _,(λv (z:Data.dict _ _=_)=>by cases z),jr,[],.nil,sf] rfl (λys o fo bV H' s' P R' hz k hb I' q hR=>?_) (λI turn n h=>aH0 I turn n h))
 refine cE (hk C s H _ s' bV H' _ I' q) λxk s7 bp=>?_;let#[y,H7,I7,r7,kk,ey,q7]:=bp;subst ey;refine cE (hv C s H _ s7 bV H7 _ I7 q7) λxv s8 bp=>?_;let#[v,H8,I8,r8,q8]:=bp;let#[z3,_,_,rs,yH,S8]:=(Np pe).J7 k (hb I8);refine wpAny_dictSet_pairs (hsz:=by rw[yH.length.symm];exact aD z3 ∅) (qS r7) S8 λh' S9 sb=>?_;let#[o9,Sw,Sx,g9,x9,d9,r9]:=id S9;exact hR s8 H8 _ h' (s8.toks+1) o9 I8 q8 (λb' u hb hu=>by rw[sb.2 b' hb];exact hu) #[by have:=W0 ys kk v;omega,(λv z=>by rw[d9] at z;cases z),g9,_,yH.put kk r8,S9]
def Nx{cl}{wi}(S:cC X scope N' d6 cl)(hc:X.calm=true)(hi:PI X tg iter wi)(hg:∀pi C s H fp,PG (f6 X pi scope N' cl C s H fp) tg g)(ht:∀pi C s H fp,jy (f6 X pi scope N' cl C s H fp) ifs tc)(hk:∀pi C s H fp,PE (f6 X pi scope N' cl C s H fp) kx tk)(hv:∀pi C s H fp,PE (f6 X pi scope N' cl C s H fp) vx tv)(hs:∀x,foldedSetIterable iter X.env x=pure x):PE X (.DictComp kx vx [#[tg,iter,ifs,0]] scope pos) (OI wi d6 N'.length g tc tk tv):=by
 intro pi s Z H Q I h;rw[arm_eval_DictComp];refine dF (use:=none) rfl hs S.nt S.kind S.names (cE (hi pi s Z H _ I h) λxv bz cM=>cE cM λrT eT gj=>?_);let#[it,fp,tn,J,H2,e,I2,T,jj,f2,W,#[m0,w0],turn]:=gj;subst e;refine Lr (RR:=λacc C=>compPost (model X.prog X.w) X.A X.xe none (EP X pi Z Q) acc C) S hc (λC s H=>hg pi C s H fp) (λC s H=>ht pi C s H fp) (λC s H=>hk pi C s H fp) (λC s H=>hv pi C s H fp) I2 T jj f2 w0 turn (λD hD=>beq_false_of_ne (bI (ay I2.big hD))) ?_;intro D C s' H' m I' q hn hC hsz;exact#[m,hn,λh' sb=>#[.ref D,H',I'.GC hsz I2 hC sb,rfl,q]]
def aM0{cl}{kJ px}{wi}{i}{x}(S:cC X scope N' d6 cl)(hc:X.calm=true)(hi:PI X tg iter wi)(hg:∀pi C s H fp,PG (f6 X pi scope N' cl C s H fp) tg g)(ht:∀pi C s H fp,jy (f6 X pi scope N' cl C s H fp) ifs tc)(hk:∀pi C s H fp,PE (f6 X pi scope N' cl C s H fp) kx tk)(hv:∀pi C s H fp,PE (f6 X pi scope N' cl C s H fp) vx tv)(hs:∀x,foldedSetIterable iter X.env x=pure x)(hN:X.Nd)(nX:X.N[i]?=some x)(hx:Loc X.env.scope x)(hf:X.fn x=true\/X.env.scope.names.lookup x=some .local) :
  PS X (.Assign [.Name x px] (.DictComp kx vx [#[tg,iter,ifs,0]] scope pos) kJ) (uU (OI wi d6 N'.length g tc tk tv) (qR i)):=by
 intro pi s Z H D I h;have ph:∃b,swapsWith (.DictComp kx vx [#[tg,iter,ifs,0]] scope pos) (some (.Name x px)) kJ.line X.env=pure b:=#[_,rfl]
 let#[b,ph]:=ph;cases b with
 |false=>exact FL hN nX hx (Nx S hc hi hg ht hk hv hs) ph hf pi s Z H D I h
 |true =>
  rw[exec_Assign_Name_used _ _ _ _ ph];refine ae (cZ (ae ?_));change wpAny _ X.A (do let _ <- comprehension (.DictComp kx vx [#[tg,iter,ifs,0]] scope pos) scope X.env _ newDict false (eval iter X.env) (some (assign (.Name x px) X.env))) _ _ s;refine ae (aY (dF (use:=some (assign (.Name x px) X.env)) (Q:=λ_ s'=>SP X pi D .next s') rfl hs S.nt S.kind S.names
   (cE (hi pi s Z H _ I h) λxv bz cM=>cE cM λrT eT gj=>?_)) (λ_ s' hq=>ak (ak hq)) λ_ _ e=>e)
  let#[it,fp,tn,J,H2,e,I2,T,jj,f2,W,#[m0,w0],turn]:=gj;subst e;refine Lr (Q:=λv H1=>qR i v Z H1 D.nx) (RR:=λacc C=>compPost (model X.prog X.w) X.A X.xe (some (assign (.Name x px) X.env)) (λ_ s'=>SP X pi D .next s') acc C) S hc (λC s H=>hg pi C s H fp) (λC s H=>ht pi C s H fp) (λC s H=>hk pi C s H fp) (λC s H=>hv pi C s H fp) I2 T jj f2 w0 turn (λD hD=>beq_false_of_ne (bI (ay I2.big hD))) ?_;intro Dl C s' H' m I' q hn hC hsz;change wpAny _ X.A (assign (.Name x px) X.env (.ref Dl)) _ _ _;refine oK (EM I' hN nX hx (v:=.ref Dl) rfl (?_) hf);rintro s3 I3 ⟨a,sb,ha⟩;let#[f0,f1,f2,f3,f4,f5]:=I2.oz (b:=C) (H':=H') hsz hC;have Cz:C≠a:=by
   rcases ha with z|z
   ·rw[z];exact f1
   ·exact λz'=>f4 _ _ z z'.symm
  exact#[m,hn.sameBut sb Cz,λh3 Bh=>#[_,H',I3.turned (t':=s3.toks) (λb o hb e=>Bh.extBut b o hb e) f0 f1 f3 f4 f5,q]]
def bA0{e}{T T'}(h:PE X e T)(f:∀Z H Q,T' Z H Q->T Z H λx H'=>∃a φ kvs,H' a=some (.ext φ)/\(∀H' h',φ h'->p6 X.prog X.w H' h' a (.dK kvs))/\Q x (upd H' a (.dK kvs))):PE X e T':=by
 intro pi s Z H Q I q;refine cE (h pi s Z H _ I (f Z H Q q)) λv s1 hq=>?_;let#[x,H1,I1,r1,a,φ,kvs,ha,BA,q1]:=hq;let#[p1,p2,_]:=I1.bJ a _ ha;exact#[x,_,V3 (t':=s1.toks) (h':=s1.heap) I1 (by rw[ha];exact True.intro) #[rfl,λ_ _=>rfl] p2 (BA _ _ p1),r1,q1]
def KV.at{kvs}{vs}(r:KV kvs vs):∀{i:Nat} {k:Key} {x:V},kvs[i]?=some (k,x)->∃u,vs[i]?=some (k,u)/\RelV x u:=by
 unfold KV at r
 induction r with
 |nil=>intro i k x h;simp at h
 |cons h r ih =>
  intro i k x e;cases i with
  |zero =>
   simp at e;subst e;let#[h1,h2]:=h;exact #[_,by
    change some _=some (k,_);have Ds:k=_:=h1;rw [Ds],h2]
  |succ i=>simpa using ih (by simpa using e)
def aS9:entryFor table "dict_itemiterator.__iter__"=some Builtin.«dict_keyiterator.__iter__» :=
 AK (id':="dict_keyiterator.__iter__") (by kernel_rfl) rfl #[] (by kernel_rfl)
abbrev OU(φ:Heap->Prop)(a:Addr)(kvs:List (Key×V)):It :=
 #[λi H=>H a=some (.ext φ)/\i<kvs.length,λi H v H'=>∃p k x,H p=none/\v=.ref p/\kvs[i]?=some (k,x)/\H'=upd H p (.tup [kV k,x]),λi H=>H a=some (.ext φ)/\kvs.length<=i]
def aZ6{P}{K}{elts}{x1}{tp}(a it:Addr){kvs}(vs:List (Key×Value))(ep:Nat)(rel:KV kvs vs) :
  Turn P w K (.Tuple elts x1 tp) (OU (λh=>h.DictAt (m4 P w) a vs ep) a kvs) [it] it (λi h=>∃ok ov,IsItemIter h it a i vs.length ep ok ov) where
 mem:=by simp
 obj:=λi h st b hb=>by
  let#[ok,ov,h1]:=st;have z:b=it:=by simpa using hb
  subst z;exact #[_,h1,λv z=>by
   have z':Data.fields _=Data.cell v:=z;cases z']
 keep:=λi h h' st k=>by
  let#[ok,ov,h1]:=st;exact#[ok,ov,k it #[_] _ h1]
 item:=by
  intro X hP hw hK hc i pi s Z H E I hf st hg;subst hP hw hK;let#[ok,ov,h1]:=st;let#[ha,hi]:=hg;have hm:s.heap.DictAt (m4 X.prog X.w) a vs ep:=(I.bJ a _ ha).1;obtain⟨k,x,hx⟩:∃k x,kvs[i]?=some (k,x):=#[_,_,au hi]
  let#[u,hu,ru]:=rel.at hx;let#[f0,f1,f2,f3,f4,f5]:=hf it #[_];refine wpAny_pyNext_items_item h1 hm hu λkey h' lO ho ht hz hk=>?_;refine#[_,rfl,wpAny_letOwnedTupleGo_items ho λh2 Rh hJ=>?_];have hJ:Heap.SameBut it h' h2:=hJ;have elt:it<s⁻¹:=aC h1;have kp:∀b o,b≠it->s.heap.get? b=some o->h2.get? b=some o:=λb o b1 q=>(hJ.2 b b1).trans (hk b o b1 q);have hn:H s⁻¹=none:=I.bJ.fresh (av _);have rA:h2.get? s⁻¹=some { cls:=.type "tuple",data:=.seq (List.toArray [key,u]) }:=(hJ.2 _ (bI elt)).trans ht;have ne:∀b u',H b=some u'->b≠it:=λb u' q z=>by rw[z,f0] at q;cases q
  have bJ:gc X.prog X.w (upd H s⁻¹ (.tup [kV k,x])) h2:=λb o q=>by
   by_cases hb:b=s⁻¹
   ·subst hb;rw[k6] at q;cases q;exact#[by change 2<=sizeLine;decide,[key,u],.cons (U7 lO) (.cons ru .nil),_,rA,rfl,#[_,rfl],rfl]
   ·rw[d0 hb] at q;refine(I.bJ b o q).J7 (λc v hc q'=>?_) (λc q'=>by rw[d0 (i7 q' hn)];exact q') λc ys q'=>by rw[d0 (i7 q' hn)];exact q'
    rcases hc with z|z
    ·subst z;exact kp _ _ (ne _ _ q) q'
    ·exact kp _ _ (ne _ _ z) q'
  have I2:Inv X pi Z (upd H s⁻¹ (.tup [kV k,x])) { s with heap:=h2 }:=by
   refine I.step (g':=s.gens) (d':=s.drawn) (t':=s.toks) (ch:=[it]) (λb hb=>?_) (λb o _ _ hb q _=>kp b o (λz=>hb (by simp[z])) q) (λb o _ _ hb q _=>#[o.slots,kp b o (λz=>hb (by simp[z])) q])
    (λb o _ q n=>by rw[d0 (aN (aC q))];exact n) (λb o hb q=>#[o,kp b o (λz=>hb (by simp[z])) q])
    (λb ys q=>by rw[d0 (i7 q hn)];exact q) (λb o' ys q=>by rw[d0 (i7 q hn)];exact q) (λb ps q=>#[(List.toArray []),by rw[d0 (i7 q hn),q];simp]) (λm hm=>?_) bJ I.bare
   ·have z:b=it:=by simpa using hb
    subst z;exact#[f3,f1,f4,f5]
   ·let#[o,es,ep,ho,r]:=hm;exact#[o,es,ep,kp _ o (aZ f1) ho,r]
  refine#[.ref s⁻¹,_,I2,rfl,#[s⁻¹,k,x,hn,rfl,hx,rfl],#[key,u,Rh],λb hb=>?_];have z:b=it:=by simpa using hb
  subst z;rw[d0 (aN elt)];exact f0
 done:=by
  intro X hP hw hK hc i pi s Z H E I hf st hg;subst hP hw hK;let#[ok,ov,h1]:=st;let#[ha,hi]:=hg;have hm:s.heap.DictAt (m4 X.prog X.w) a vs ep:=(I.bJ a _ ha).1;let#[f0,f1,f2,f3,f4,f5]:=hf it #[_];exact wpAny_pyNext_items_end (I.ok.hd hc) h1 hm (bq (by rw[<- rel.length];exact hi)) λh' eb=>#[rfl,I.turned (t':=s.toks) (λb o hb e=>eb b o hb e) f0 f1 f3 f4 f5]
 self:=λ_ _ s _ _ st h=>by
  let#[ok,ov,h1]:=st;have hT:s.TypeIs (.ref it) "dict_itemiterator":=#[_,h1,rfl]
  refine oJ hT jR (bS jR hT aS9 ?_ (PySem.F.args_dict_itemiterator_iter_1 _));change wpAny _ _ (ret (.ref it)) _ _ s;exact ak #[_,rfl,"dict_itemiterator",_,hT,PySem.F.slot_dict_itemiterator_next.lookup,h]
def Vy{o}{td}{apos tp}{elts}{x1}(ho:PE X o td)(fI:attributeBase o "items" X.env (eval o X.env)=eval o X.env)(fH:(apos.endLine==pos.line)=true) :
  PI X (.Tuple elts x1 tp) (.Call (.Attribute o "items" apos) [] [] pos) (λZ H R=>td Z H λv H1=>∃a kvs,v=.ref a/\H1 a=some (.dK kvs)/\∀φ:Heap->Prop,(∀H' h',φ h'->p6 X.prog X.w H' h' a (.dK kvs))->R (OU φ a kvs) (upd H1 a (.ext φ))):=by
 intro pi s Z H R I h;refine wpAny_Call_method (T:="dict") (id:="dict.items") fI rfl fH tJ tI PySem.F.type_dict_items (cE (ho pi s Z H _ I h) λu s1 bp=>?_);let#[x,H1,I1,rx,a,kvs,ex,ha,q]:=bp;subst ex;obtain rfl:u=Value.ref a:=rx;let#[z,hd,vs,rel,dd]:=uv I1.bJ ha;refine#[dd.typeIs,dd.mapOf.noDict,?_];change wpAny _ _ (callWith pos (.builtin "dict.items") [.ref a] [] []) _ _ s1;refine method_meetsIn tI PySem.F.entry_dict_items rfl (GZ #[rfl,dd.typeIs,PySem.F.args_dict_items_1 _,_,meets_dict_items (m4 X.prog X.w) a hd,#[vs,dd],?_]);let#[o1,es,ep,r1]:=dd;have hm:s1.heap.DictAt (m4 X.prog X.w) a vs ep:=#[o1,es,r1]
 have qt:=hm.push { cls:=.type "dict_items",data:=.fields (List.toArray [.ref a]) };have la:(s1.heap.push { cls:=.type "dict_items",data:=.fields (List.toArray [.ref a]) }).objs.size=s1⁻¹+1:=dM ..;refine wpAny_pyIter_items (v:=s1⁻¹) #[_,aB _ rfl,rfl,rfl] qt ?_;have kp:∀b o,s1.heap.get? b=some o->((s1.heap.push { cls:=.type "dict_items",data:=.fields (List.toArray [.ref a]) }).push { cls:=.type "dict_itemiterator",data:=.fields (List.toArray [.none,.bool false,.ref a,.int 0 0,.int vs.length 0,.int ep 0,.none,.none]) }).get? b=some o:=λb o e=>aj _ (aj _ e);have I2:=I1.kept (t':=s1.toks) kp;have tY:=qt.push { cls:=.type "dict_itemiterator",data:=.fields (List.toArray [.none,.bool false,.ref a,.int 0 0,.int vs.length 0,.int ep 0,.none,.none]) };have hit:IsItemIter ((s1.heap.push { cls:=.type "dict_items",data:=.fields (List.toArray [.ref a]) }).push { cls:=.type "dict_itemiterator",data:=.fields (List.toArray [.none,.bool false,.ref a,.int 0 0,.int vs.length 0,.int ep 0,.none,.none]) }) (s1.heap.push { cls:=.type "dict_items",data:=.fields (List.toArray [.ref a]) }).objs.size a 0 vs.length ep .none .none:=aB _ rfl;let#[o3,es3,g3,r3]:=id tY;have I3:=V3 (t':=s1.toks) (ob:=.ext λh=>h.DictAt (m4 X.prog X.w) a vs ep) I2 (by rw[ha];exact True.intro) #[rfl,λ_ _=>rfl] #[_,g3] #[tY,#[_,g3],(by rintro h1 h2 ⟨o,es,e,r⟩ k;exact #[o,es,k o e,r])];refine#[_,[_],_,_,_,rfl,I3,aZ6 a _ vs ep rel,#[_,_,hit],λb hb=>?_,q _ λH' h' e=>xy z hd rel (let ⟨o,es,e⟩:=e;#[o,es,ep,e])];have z:b=(s1.heap.push { cls:=.type "dict_items",data:=.fields (List.toArray [.ref a]) }).objs.size:=by simpa using hb
 have jw:s1⁻¹<=b:=by rw[z,la];exact jg _
 refine I1.oz jw ?_;rw[d0 (bI (ay hm.lt_size jw))];exact I1.bJ.fresh jw
end
abbrev Kp:List Int->List Int->Bool
 |x::xs,y::ys=>if x=y then Kp xs ys else decide (x<y)
 |_,_=>false
end L2
namespace M
open PySem L2
set_option genInjectivity true in
inductive D where
 |br|bl (b:Bool)|int (i:Int)|str (x:Str)|ty (n:String)|ref (i:Nat)|tup (l:List D)
set_option genInjectivity true in
inductive O where
 |lst (l:List D)|pH (l:List D)
 |cg (kvs:List (Key×D))
 |ins (c:Str) (fs:List (Str×D))
 |set (S:Int->Bool) (n:Nat)
abbrev O.mut:O->Bool
 |.pH _=>false
 |_=>true
abbrev nA:D->Option Key
 |.int i=>some (.inl i)
 |.str x=>some (.inr x)
 |_=>none
abbrev v8(kvs:List (Key×D))(k:Key):Option D:=(kvs.find? λkv=>decide (kv.1=k)).map (·.2)
abbrev putD(kvs:List (Key×D))(k:Key)(v:D):List (Key×D) :=
 if(kvs.any λkv=>decide (kv.1=k))=true then kvs.map (λkv=>if kv.1=k then(kv.1,v) else kv) else kvs++[(k,v)]
abbrev m7(f:Str)(v:D):List (Str×D)->List (Str×D)
 |[]=>[(f,v)]
 |(g,x)::r=>if g=f then(g,v)::r else(g,x)::m7 f v r
abbrev V9:List D->Str->Option D
 |.tup [.str y,v]::r,x=>if x=y then some v else V9 r x
 |_::_,_=>none
 |[],_=>none
abbrev Jv:List D->Option Str
 |[]=>some Str.empty
 |.str x::r=>(Jv r).map λy=>x++y
 |_=>none
structure Xn where
 cls:Str
noncomputable abbrev G:=List O
noncomputable abbrev S:=List (Option D)
noncomputable abbrev KD:=D->G->Prop
noncomputable abbrev KX:=Xn->G->Prop
noncomputable abbrev jt:KX:=λ_ _=>False
abbrev FD:Option O->Option (List D)
 |some (.lst l)=>some l
 |some (.pH l)=>some l
 |_=>none
noncomputable abbrev d7(g:G)(a:Nat):Option (List D):=FD g[a]?
abbrev rd(g:G):Nat->D->Option PyData
 |_,.br=>some .none
 |_,.bl b=>some (.bool b)
 |_,.int i=>some (.int i)
 |_,.str x=>some (.str x)
 |_,.ty _=>none
 |0,.ref _=>none
 |0,.tup _=>none
 |n+1,.ref a=>match d7 g a with
  |some l=>(l.mapM (rd g n)).map .list
  |none=>none
 |n+1,.tup l=>(l.mapM (rd g n)).map .tuple
abbrev PU(g:G)(l:List D):Option (List PyData):=l.mapM (rd g 6)
abbrev L1(g:G):D->Option (List D)
 |.tup l=>some l
 |.ref a=>d7 g a
 |_=>none
abbrev Z5:D->Bool
 |.br=>true
 |_=>false
abbrev cut{α:Type}(xs:List α)(lo hi:Option Int):List α:=(xs.drop (HT.dY xs.length 0 lo)).take (HT.dY xs.length xs.length hi-HT.dY xs.length 0 lo)
abbrev sR(g:G)(x:D)(c:String):Option Bool:=match x with
 |.br=>some (c=="NoneType")
 |.bl _=>some (c=="bool"||c=="int")
 |.int _=>some (c=="int")
 |.str _=>some (c=="str")
 |.tup _=>some (c=="tuple")
 |.ref a=>match g[a]? with
  |some (.lst _)=>some (c=="list")
  |_=>none
 |.ty _=>none
abbrev E0(lo:Int)(n:Nat):List D:=(List.range n).map λ(k:Nat)=>.int (lo+k)
abbrev qQ:List D->Option Bool
 |[]=>some true
 |.bl b::r=>(qQ r).map λc=>b&&c
 |_=>none
inductive Pr where
 |bin (op:Operator)|un (op:UnaryOp)|cmp (op:CmpOp)
 |ix|lY (lo hi:Bool)|rev|tup|lst|Y5
 |len|list|tuple|isin|all|max|min|int|str|mL|mK|sset|PJ|wU
 |Sj|Dt|nk|fv|Dv|fld (f:Str)
 |append|pop|get|index|join|iadd|clear|rL|extend|any|eW|sum|nB|rV|ka|rS|nr|lT|iW|jZ (i:Int)
noncomputable abbrev DR:=List D->G->D->G->Prop
abbrev arR:Operator->Int->Int->Int->Prop
 |.Add,i,j,r=>r=i+j
 |.Sub,i,j,r=>r=i-j
 |.Mult,i,j,r=>sN i j/\r=i*j
 |.FloorDiv,i,j,r=>DN i j/\r=i / j
 |.Mod,i,j,r=>0<j/\r=i % j
 |.Pow,i,j,r=>oq i j/\r=i ^ j.toNat
 |.LShift,i,j,r=>oq i j/\r=i*2 ^ j.toNat
 |.BitAnd,i,j,r=>r=Builtin.bitAnd i j
 |.BitOr,i,j,r=>r=Builtin.bitOr i j
 |_,_,_,_=>False
abbrev SU(op:Operator):DR:=λxs g d g' =>
 (∃i j r,xs=[.int i,.int j]/\arR op i j r/\d=.int r/\g'=g) \/
 (op=.Add/\((∃ l m,xs=[.tup l,.tup m]/\l.length + m.length <= 100000/\d=.tup (l ++ m)/\g'=g) \/
  (∃a b l m,xs=[.ref a,.ref b]/\g[a]?=some (.lst l)/\g[b]?=some (.lst m)/\l.length+m.length<=100000/\d=.ref g.length/\g'=g++[.lst (l++m)]) \/
  False)) \/
 (op=.Mult/\((∃ a l n,xs=[.ref a,.int n]/\g[a]?=some (.lst l)/\-(2 ^ 62) <= n/\n < 2 ^ 62/\l.length * n.toNat <= 100000/\d=.ref g.length/\g'=g ++ [.lst (List.replicate n.toNat l).flatten]) \/
  (∃ l n,xs=[.tup l,.int n]/\l ≠ []/\1 <= n/\n < 2 ^ 62/\l.length * n.toNat <= 100000/\d=.tup (List.replicate n.toNat l).flatten/\g'=g)))
abbrev Pp(op:UnaryOp):DR:=λxs g d g'=>op=.USub/\∃i,xs=[.int i]/\d=.int (-i)/\g'=g
abbrev wR(g:G)(x y:D)(b:Bool):Prop :=
 (∃i j,x=.int i/\y=.int j/\b=decide (i=j))\/(∃i j,x=.bl i/\y=.bl j/\b=(i==j))\/(∃i j,x=.str i/\y=.str j/\b=decide (i=j)) \/
 ∃p q,rd g 6 x=some p/\rd g 6 y=some q/\p.canLay0=true/\q.canLay0=true/\b=PyData.eqv p q
abbrev inR(g:G)(x y:D)(b:Bool):Prop :=
 (∃a kvs c,y=.ref a/\g[a]?=some (.cg kvs)/\nA x=some c/\b=(v8 kvs c).isSome) \/
 ∃l ps p,L1 g y=some l/\PU g l=some ps/\rd g 6 x=some p/\PyData.canLayAll0 ps=true/\p.canLay0=true/\b=(ps.any λq=>PyData.eqv q p)
abbrev KA(g:G)(x y:D)(b:Bool):Prop:=∃a S n i,y=.ref a/\g[a]?=some (.set S n)/\x=.int i/\b=S i
abbrev Ki(g:G)(x y:D)(b:Bool):CmpOp->Prop
 |.Eq=>wR g x y b
 |.NotEq=>wR g x y (!b)
 |.In=>inR g x y b\/KA g x y b
 |.NotIn=>inR g x y (!b)\/KA g x y (!b)
 |.Lt=>∃i j,x=.int i/\y=.int j/\b=decide (i<j)
 |.LtE=>∃i j,x=.int i/\y=.int j/\b=decide (i<=j)
 |.Gt=>∃i j,x=.int i/\y=.int j/\b=decide (j<i)
 |.GtE=>∃i j,x=.int i/\y=.int j/\b=decide (j<=i)
 |.Is=>y=.br/\b=Z5 x
 |.IsNot=>y=.br/\b=!Z5 x
abbrev Tb(op:CmpOp):DR:=λxs g d g'=>∃x y b,xs=[x,y]/\Ki g x y b op/\d=.bl b/\g'=g
abbrev KH(g:G)(x:D)(b:Bool):Prop :=
 (x=.br/\b=false)\/x=.bl b\/(∃i,x=.int i/\b=(i != 0))\/(∃l,x=.tup l/\b=!l.isEmpty)\/∃a l,x=.ref a/\d7 g a=some l/\b=!l.isEmpty
abbrev QA:DR:=λxs g d g'=>g'=g/\((∃x l i,xs=[x,.int i]/\L1 g x=some l/\jc l i=some d)\/(∃a kvs y c,xs=[.ref a,y]/\g[a]?=some (.cg kvs)/\nA y=some c/\v8 kvs c=some d) \/
 False)
abbrev vp(x:D)(lo hi:Option Int)(g:G)(d:D)(g':G):Prop:=(∃l,x=.tup l/\d=.tup (cut l lo hi)/\g'=g)\/∃a l,x=.ref a/\d7 g a=some l/\d=.ref g.length/\g'=g++[.lst (cut l lo hi)]
abbrev b58:Bool->Bool->DR
 |false,false,xs,g,d,g'=>∃x,xs=[x]/\vp x none none g d g'
 |true,false,xs,g,d,g'=>∃x i,xs=[x,.int i]/\vp x (some i) none g d g'
 |false,true,xs,g,d,g'=>∃x j,xs=[x,.int j]/\vp x none (some j) g d g'
 |true,true,xs,g,d,g'=>∃x i j,xs=[x,.int i,.int j]/\vp x (some i) (some j) g d g'
abbrev b62:DR:=λxs g d g'=>(∃l,xs=[.tup l]/\d=.tup l.reverse/\g'=g)\/∃a l,xs=[.ref a]/\d7 g a=some l/\d=.ref g.length/\g'=g++[.lst l.reverse]
abbrev b40:DR:=λxs g d g'=>xs.length<=1000/\d=.tup xs/\g'=g
abbrev b87:DR:=λxs g d g'=>xs.length<=1000/\d=.ref g.length/\g'=g++[.lst xs]
abbrev uP:List D->List (Key×D)->Option (List (Key×D))
 |[],kvs=>some kvs
 |k::v::r,kvs=>(nA k).bind λc=>uP r (putD kvs c v)
 |_,_=>none
abbrev b15:DR:=λxs g d g'=>xs=[]/\d=.ref g.length/\g'=g++[.cg []]
abbrev b88:DR:=λxs g d g'=>g'=g/\((∃x l,xs=[x]/\L1 g x=some l/\d=.int l.length)\/(∃a kvs,xs=[.ref a]/\g[a]?=some (.cg kvs)/\d=.int kvs.length)\/False)
abbrev kD:Key->D
 |.inl i=>.int i
 |.inr x=>.str x
abbrev Xs:DR:=λxs g d g'=>(∃x l,xs=[x]/\L1 g x=some l/\d=.ref g.length/\g'=g++[.lst l])\/∃a kvs,xs=[.ref a]/\g[a]?=some (.cg kvs)/\kvs.length<=10000/\d=.ref g.length/\g'=g++[.lst ((kvs.map (·.1)).map kD)]
abbrev bG1:DR:=λxs g d g'=>∃x l,xs=[x]/\L1 g x=some l/\d=.tup l/\g'=g
abbrev b04:DR:=λxs g d g'=>∃x c b,xs=[x,.ty c]/\c∈["int","bool","str","tuple","list"]/\sR g x c=some b/\d=.bl b/\g'=g
abbrev allR:DR:=λxs g d g'=>∃a l b,xs=[.ref a]/\d7 g a=some l/\(qQ l=some b\/∃ns:List Int,l=ns.map .int/\b=ns.all λn=>n != 0)/\d=.bl b/\g'=g
abbrev Jf:List D->Option Bool
 |[]=>some false
 |.bl b::r=>(Jf r).map λc=>b||c
 |_=>none
abbrev anyR:DR:=λxs g d g'=>∃a l b,xs=[.ref a]/\d7 g a=some l/\Jf l=some b/\d=.bl b/\g'=g
abbrev bI3:DR:=λxs g d g'=>(∃a kvs ns,xs=[.ref a]/\g[a]?=some (.cg kvs)/\kvs.map (·.1)=ns.map Sum.inl/\ns.length<60/\d=.ref g.length/\g'=g++[.lst ((m5 ns).map .int)])\/∃x,∃ns:List Int,xs=[x]/\L1 g x=some (ns.map .int)/\ns.length<60/\d=.ref g.length/\g'=g++[.lst ((S0 ns).map .int)]
abbrev b86:DR:=λxs g d g'=>g'=g/\((∃i j,xs=[.int i,.int j]/\d=.int (if j>i then j else i))\/∃a,∃(ns:List Int) (M:Int),xs=[.ref a]/\d7 g a=some (ns.map .int)/\M∈ns/\(∀x∈ns,x<=M)/\d=.int M)
abbrev b85:DR:=λxs g d g'=>g'=g/\((∃i j,xs=[.int i,.int j]/\d=.int (if j<i then j else i))\/(∃a,∃(ns:List Int) (M:Int),xs=[.ref a]/\d7 g a=some (ns.map .int)/\M∈ns/\(∀x∈ns,M<=x)/\d=.int M)\/∃a b,∃(ns ms:List Int),xs=[.ref a,.ref b]/\g[a]?=some (.lst (ns.map .int))/\g[b]?=some (.lst (ms.map .int))/\ms.length=ns.length/\d=if L2.Kp ms ns then .ref b else .ref a)
abbrev XZ:DR:=λxs g d g'=>∃a i S n,xs=[.ref a,.int i]/\g[a]?=some (.set S n)/\n+1<4096/\d=.br/\g'=g.set a (.set (λk=>S k||decide (k=i)) (if S i then n else n+1))
abbrev Xr:DR:=λxs g d g'=>∃a,∃ns:List Int,xs=[.ref a]/\d7 g a=some (ns.map .int)/\ns.length<600/\d=.ref g.length/\g'=g++[.set (λk=>decide (k∈ns)) (ST.f9 [] ns).length]
abbrev ZZ(i:Int):DR:=λxs g d g'=>xs=[]/\d=.ref g.length/\g'=g++[.set (λk=>decide (k=i)) 1]
abbrev b56:DR:=λxs g d g'=>∃a,∃ns:List Int,xs=[.ref a]/\d7 g a=some (ns.map .int)/\d=.int ns.sum/\g'=g
abbrev Xt:DR:=λxs g d g'=>∃a,∃ns:List Int,xs=[.ref a]/\d7 g a=some (ns.map .int)/\ns.length<60/\d=.int (ST.f9 [] ns).length/\g'=g
abbrev b03:DR:=λxs g d g'=>∃i j,xs=[.int i,.int j]/\d=.int (i-j)/\g'=g
abbrev b90:DR:=λxs g d g'=>g'=g/\((∃i,xs=[.int i]/\d=.int i)\/∃b,xs=[.bl b]/\d=.int (if b then 1 else 0))
abbrev b57:DR:=λxs g d g'=>(∃i,xs=[.int i]/\i.natAbs.log2<1920/\d=.str (toString i)/\g'=g)\/∃x,xs=[.str x]/\d=.str x/\g'=g
abbrev Zd:DR:=λxs g d g'=>∃j,xs=[.int j]/\-(2 ^ 62)<=j/\j<=100000/\d=.ref g.length/\g'=g++[.lst (E0 0 j.toNat)]
abbrev Ze:DR:=λxs g d g'=>∃i j,xs=[.int i,.int j]/\(-(2 ^ 62)<=i/\i<2 ^ 62/\-(2 ^ 62)<=j/\j<2 ^ 62/\j-i<=100000)/\d=.ref g.length/\g'=g++[.lst (E0 i (j-i).toNat)]
abbrev Yb:DR:=λxs g d g'=>∃a ns,xs=[.ref a]/\d7 g a=some (ns.map .int)/\ns.length<60/\d=.ref g.length/\g'=g++[.lst ((m5 ns).map .int)]
abbrev b55:DR:=λxs g d g'=>∃ns ms:List Int,xs=[.tup (ns.map .int),.tup (ms.map .int)]/\(∀k∈ns,ST.Spot k)/\(∀k∈ms,ST.Spot k)/\ns.length+ms.length<50/\d=.ref g.length/\g'=g++[.lst ((m5 (ns++ms)).map .int)]
abbrev Km(neg:Bool):DR:=λxs g d g'=>∃kvs x,xs=[.tup kvs,.str x]/\d=.bl (xor neg (V9 kvs x).isSome)/\g'=g
abbrev b10:DR:=λxs g d g'=>∃kvs x,xs=[.tup kvs,.str x]/\V9 kvs x=some d/\g'=g
abbrev Sr:DR:=λxs g d g'=>g'=g/\((∃i,xs=[.int i]/\i.natAbs.log2<1920/\d=.str (toString i))\/∃x,xs=[.str x]/\x.length<=2000/\d=.str x)
abbrev b11:DR:=λxs g d g'=>∃x,Jv xs=some x/\d=.str x/\g'=g
abbrev b95(f:Str):DR:=λxs g d g'=>∃a c fs,xs=[.ref a]/\g[a]?=some (.ins c fs)/\fs.lookup f=some d/\g'=g
abbrev appendR:DR:=λxs g d g'=>∃a y l,xs=[.ref a,y]/\g[a]?=some (.lst l)/\l.length<100000/\d=.br/\g'=g.set a (.lst (l++[y]))
abbrev b73:DR:=λxs g d g'=>∃a i l k,xs=[.ref a,.int i]/\g[a]?=some (.lst l)/\-(2 ^ 63)<=i/\i<2 ^ 63/\seqIndex? i l.length=some k/\l[k]?=some d/\g'=g.set a (.lst (l.eraseIdx k))
abbrev b93:DR:=λxs g d g'=>∃a y z kvs c,xs=[.ref a,y,z]/\g[a]?=some (.cg kvs)/\nA y=some c/\d=(v8 kvs c).getD z/\g'=g
abbrev Ak:D->Bool
 |.br=>true
 |.bl _=>true
 |.int _=>true
 |.str _=>true
 |_=>false
abbrev toV:D->V
 |.bl b=>.bl b
 |.int i=>.int i
 |.str x=>.str x
 |_=>.br
abbrev JS(l:List D)(y:D)(n:Nat):Prop:=l.all Ak=true/\Ak y=true/\(∃z,l[n]?=some z/\lS (toV z) (toV y)=true)/\∀(m:Nat) z,m<n->l[m]?=some z->lS (toV z) (toV y)=false
abbrev YS:DR:=λxs g d g'=>∃x y l n,xs=[x,y]/\L1 g x=some l/\JS l y n/\l.length<=100000/\d=.int n/\g'=g
abbrev joinR:DR:=λxs g d g'=>∃sep a ys,xs=[.str sep,.ref a]/\d7 g a=some (ys.map .str)/\bC7 sep ys<=100000/\d=.str (Builtin.Str.glued sep ys)/\g'=g
abbrev b06:DR:=λxs g d g'=>(∃i j,xs=[.int i,.int j]/\d=.int (i+j)/\g'=g)\/∃l m,xs=[.tup l,.tup m]/\l.length+m.length<=100000/\d=.tup (l++m)/\g'=g
abbrev YI:DR:=λxs g d g'=>∃a l,xs=[.ref a]/\g[a]?=some (.lst l)/\d=.br/\g'=g.set a (.lst [])
abbrev XN:DR:=λxs g d g'=>∃a l,xs=[.ref a]/\g[a]?=some (.lst (l++[d]))/\g'=g.set a (.lst l)
abbrev bD7:DR:=λxs g d g'=>∃a b l m,xs=[.ref a,.ref b]/\g[a]?=some (.lst l)/\g[b]?=some (.lst m)/\l.length+m.length<=100000/\d=.br/\g'=g.set a (.lst (l++m))
abbrev YL:DR:=λxs g d g'=>False\/∃a,∃ks:List Int,xs=[.ref a]/\d7 g a=some (ks.map λk=>.tup [.int k,.bl true])/\ks.length<=1000/\ks.Nodup/\d=.ref g.length/\g'=g++[.cg (ks.map λk=>(.inl k,.bl true))]
abbrev lR(p:Key×Int×Int):Key×D:=(p.1,.tup [.int p.2.1,.int p.2.2])
abbrev qT(n:Int)(p:Key×Int×Int):Bool:=!(decide (p.2.1=n)||decide (p.2.2=n))
abbrev b16:DR:=λxs g d g'=>∃a n,∃fs:List (Key×Int×Int),xs=[.ref a,.int n]/\g[a]?=some (.cg (fs.map lR))/\fs.length<1000/\(fs.map (·.1)).Nodup/\d=.ref g.length/\g'=g++[.cg ((fs.filter (qT n)).map lR)]
abbrev qO(ns:List Int):List (Key×D):=ns.zipIdx.map λp=>(.inl p.1,.int p.2)
abbrev b17:DR:=λxs g d g'=>∃a,∃ns:List Int,xs=[.ref a]/\g[a]?=some (.lst (ns.map .int))/\ns.length<1000/\ns.Nodup/\d=.ref g.length/\g'=g++[.cg (qO ns)]
abbrev delD(kvs:List (Key×D))(k:Key):List (Key×D):=kvs.filter λkv=>decide (kv.1≠k)
abbrev b14:DR:=λxs g d g'=>∃a y kvs c,xs=[.ref a,y]/\g[a]?=some (.cg kvs)/\nA y=some c/\v8 kvs c=some d/\g'=g.set a (.cg (delD kvs c))
abbrev PR:Pr->DR
 |.nr=>b16
 |.lT=>b17
 |.iW=>b14
 |.clear=>YI
 |.any=>anyR
 |.sum=>b56
 |.ka=>XZ
 |.rS=>Xr
 |.jZ i=>ZZ i
 |.nB=>Xt
 |.rV=>b03
 |.eW=>bI3
 |.extend=>bD7
 |.rL=>XN
 |.wU=>YL
 |.bin op=>SU op
 |.un op=>Pp op
 |.cmp op=>Tb op
 |.ix=>QA
 |.lY a b=>b58 a b
 |.rev=>b62
 |.tup=>b40
 |.lst=>b87
 |.Y5=>b15
 |.len=>b88
 |.list=>Xs
 |.tuple=>bG1
 |.isin=>b04
 |.all=>allR
 |.max=>b86
 |.min=>b85
 |.int=>b90
 |.str=>b57
 |.mL=>Zd
 |.mK=>Ze
 |.sset=>Yb
 |.PJ=>b55
 |.Sj=>Km false
 |.Dt=>Km true
 |.nk=>b10
 |.fv=>Sr
 |.Dv=>b11
 |.fld f=>b95 f
 |.append=>appendR
 |.pop=>b73
 |.get=>b93
 |.index=>YS
 |.join=>joinR
 |.iadd=>b06
abbrev cL(p:Pr)(xs:List D)(g:G)(Q:KD):Prop:=∃d g',PR p xs g d g'/\Q d g'
abbrev uo(g:G)(x y:D)(k:Bool->Prop):Prop:=∃b,wR g x y b/\k b
abbrev nQ(g:G)(x y:D)(k:Bool->Prop):Prop:=∃b,inR g x y b/\k b
abbrev pR(g:G)(x:D)(k:Bool->Prop):Prop:=∃b,KH g x b/\k b
abbrev b59(x y v:D)(g g':G):Prop:=(∃a i l j,x=.ref a/\y=.int i/\g[a]?=some (.lst l)/\nO l.length i=some j/\g'=g.set a (.lst (l.set j v))) \/
 ∃a kvs c,x=.ref a/\g[a]?=some (.cg kvs)/\nA y=some c/\kvs.length<100000/\g'=g.set a (.cg (putD kvs c v))
abbrev oB(x y v:D)(g:G)(k:G->Prop):Prop:=∃g',b59 x y v g g'/\k g'
abbrev JD(f:Str)(cs:List Str)(x v:D)(g g':G):Prop:=∃a c fs,x=.ref a/\g[a]?=some (.ins c fs)/\c∈cs/\fs.length<100/\g'=g.set a (.ins c (m7 f v fs))
abbrev xn(f:Str)(cs:List Str)(x v:D)(g:G)(k:G->Prop):Prop:=∃g',JD f cs x v g g'/\k g'
abbrev mJ:Pr->D->G->Prop
 |.get,x,g=>∃a kvs,x=.ref a/\g[a]?=some (.cg kvs)
 |.iW,x,g=>∃a kvs,x=.ref a/\g[a]?=some (.cg kvs)
 |.join,x,g=>∃y,x=.str y
 |.ka,x,g=>∃a S n,x=.ref a/\g[a]?=some (.set S n)
 |.index,x,g=>∃a l,x=.ref a/\d7 g a=some l
 |_,x,g=>∃a l,x=.ref a/\d7 g a=some l
inductive IK where
 |fix (l:List D)|lst (a:Nat)|pI (a:Nat)|tS (a n:Nat)
abbrev IK.at:IK->Nat->G->Option (Option D)
 |.fix l,i,_=>some l[i]?
 |.lst a,i,g=>match d7 g a with
  |some l=>some l[i]?
  |none=>none
 |.pI a,i,g=>match d7 g a with
  |some l=>some (l[i]?.map λd=>.tup [.int i,d])
  |none=>none
 |.tS a n,i,g=>match d7 g a with
  |some l=>if l.length=n then some (if i<n then l[n-1-i]? else none) else none
  |none=>none
inductive MT where
 |one (i:Nat)|many (is:List Nat)
abbrev X4:List Nat->List D->S->Option S
 |[],[],Z=>some Z
 |i::is,d::ds,Z=>X4 is ds (Z.set i (some d))
 |_,_,_=>none
abbrev jT(t:MT)(x:D)(Z:S)(k:S->Prop):Prop:=match t with
 |.one i=>k (Z.set i (some x))
 |.many is=>∃l bV,x=.tup l/\X4 is l Z=some bV/\k bV
set_option genInjectivity false in
set_option genSizeOf false in
inductive ME where
 |var (i:Nat)|lit (d:D)
 |nil|cons (a b:ME)|prim (p:Pr) (es:ME)|fu (p:Pr) (o es:ME)|oo (es:ME)
 |chain (o1 o2:CmpOp) (a b c:ME)
 |dS (a b:ME)|gF (a b:ME)|de (a:ME)|ite (c a b:ME)
 |call (f:Nat) (es:ME)|make (c:Str) (f:Nat) (es:ME)|bK (m:Str) (cs:List (Str×Nat)) (o es:ME)
 |comp (d6:List Nat) (n:Nat) (tg:MT) (it cond elt:ME)|gT (d6:List Nat) (n:Nat) (tg:MT) (it cond elt:ME)
 |eZ (e:ME)|fL (a:ME)|jo (a b:ME)|kL (e:ME)|nP (e:ME)|eB (e:ME)|no
noncomputable abbrev fb:=Nat->List D->G->KD->KX->Prop
abbrev Q1(Z:S)(d6:List Nat)(n:Nat):S:=d6.map (λj=>(Z[j]?).join)++List.replicate (n-d6.length) none
abbrev turns(k:IK)(Z:S)(g:G)(fin:S->G->Prop)(turn:D->(S->G->Prop)->S->G->Prop):Prop :=
 ∃W:Nat->Nat->S->G->Prop,(∃m,W 0 m Z g)/\∀i m Z g,W i m Z g->(k.at i g=some none/\fin Z g)\/∃x,k.at i g=some (some x)/\∃N2:S->G->Prop,(∀bV g',N2 bV g'->∃m',m'<m/\W (i+1) m' bV g')/\turn x N2 Z g
abbrev FQ(k:IK)(Z:S)(g:G)(fin:List D->G->Prop)(turn:D->(Option D->S->G->Prop)->S->G->Prop):Prop :=
 ∃W:Nat->Nat->List D->S->G->Prop,(∃m,W 0 m [] Z g)/\∀i m ys Z g,W i m ys Z g->(k.at i g=some none/\fin ys g) \/
  ∃x,k.at i g=some (some x)/\ys.length<100000/\turn x (λy bV g'=>∃m',m'<m/\W (i+1) m' (ys++y.toList) bV g') Z g
abbrev FR(k:IK)(Z:S)(g:G)(fin:List Int->G->Prop)(turn:D->(Option Int->S->G->Prop)->S->G->Prop):Prop :=
 ∃W:Nat->Nat->List Int->S->G->Prop,(∃m,W 0 m [] Z g)/\∀i m ys Z g,W i m ys Z g->(k.at i g=some none/\ys.length<60/\fin ys g) \/
  ∃x,k.at i g=some (some x)/\ys.length<60/\turn x (λy bV g'=>∃m',m'<m/\W (i+1) m' (ys++y.toList) bV g') Z g
mutual
noncomputable def aW(P:fb):ME->S->G->KD->KX->Prop
 |.var i,Z,g,Q,_=>∃d,Z[i]?=some (some d)/\Q d g
 |.lit d,_,g,Q,_=>Q d g
 |.prim p es,Z,g,Q,E=>fJ P es Z g (λxs g1=>cL p xs g1 Q) E
 |.fu p o es,Z,g,Q,E=>aW P o Z g (λx g1=>mJ p x g1/\fJ P es Z g1 (λxs g2=>cL p (x::xs) g2 Q) E) E
 |.oo es,Z,g,Q,E=>fJ P es Z (g++[.cg []]) (λxs g1=>∃kvs,uP xs []=some kvs/\xs.length<=30/\g1[g.length]?=some (.cg [])/\Q (.ref g.length) (g1.set g.length (.cg kvs))) E
 |.chain o1 o2 a b c,Z,g,Q,E=>aW P a Z g (λx g1=>aW P b Z g1 (λy g2=>cL (.cmp o1) [x,y] g2 λz g3=>∃t,z=.bl t/\if t=true then aW P c Z g3 (λw g4=>cL (.cmp o2) [y,w] g4 Q) E else Q (.bl false) g3) E) E
 |.dS a b,Z,g,Q,E=>aW P a Z g (λx g1=>∃t,x=.bl t/\if t=true then aW P b Z g1 Q E else Q (.bl false) g1) E
 |.gF a b,Z,g,Q,E=>aW P a Z g (λx g1=>∃t,x=.bl t/\if t=true then Q (.bl true) g1 else aW P b Z g1 Q E) E
 |.de a,Z,g,Q,E=>aW P a Z g (λx g1=>∃t,x=.bl t/\Q (.bl (!t)) g1) E
 |.ite c a b,Z,g,Q,E=>dP P c Z g (λt g1=>if t=true then aW P a Z g1 Q E else aW P b Z g1 Q E) E
 |.call f es,Z,g,Q,E=>fJ P es Z g (λxs g1=>P f xs g1 Q E) E
 |.make c f es,Z,g,Q,E=>fJ P es Z g (λxs g1=>P f (.ref g1.length::xs) (g1++[.ins c []]) (λd g2=>d=.br/\Q (.ref g1.length) g2) E) E
 |.bK m cs o es,Z,g,Q,E=>aW P o Z g (λx g1=>∃a c fs f,x=.ref a/\g1[a]?=some (.ins c fs)/\fs.lookup m=none/\cs.lookup c=some f/\fJ P es Z g1 (λxs g2=>P f (x::xs) g2 Q E) E) E
 |.comp d6 n tg it cond elt,Z,g,Q,E=>gE P it Z g (λk g1=>FQ k (Q1 Z d6 n) g1 (λys g=>Q (.ref g.length) (g++[.lst ys])) λx N Z g=>jT tg x Z λcz=>dP P cond cz g (λb g3=>if b=true then aW P elt cz g3 (λy g4=>N (some y) cz g4) jt else N none cz g3) jt) E
 |.gT d6 n tg it cond elt,Z,g,Q,E=>gE P it Z g (λk g1=>FR k (Q1 Z d6 n) g1 (λys g=>Q (.ref g.length) (g++[.lst ((m5 ys).map .int)])) λx N Z g=>jT tg x Z λcz=>dP P cond cz g (λb g3=>if b=true then aW P elt cz g3 (λy g4=>∃j,y=.int j/\N (some j) cz g4) jt else N none cz g3) jt) E
 |.nil,_,_,_,_=>False
 |.cons _ _,_,_,_,_=>False
 |.eZ _,_,_,_,_=>False
 |.fL _,_,_,_,_=>False
 |.jo _ _,_,_,_,_=>False
 |.kL _,_,_,_,_=>False
 |.nP _,_,_,_,_=>False
 |.eB _,_,_,_,_=>False
 |.no,_,_,_,_=>False
noncomputable def fJ(P:fb):ME->S->G->(List D->G->Prop)->KX->Prop
 |.nil,_,g,Q,_=>Q [] g
 |.cons a b,Z,g,Q,E=>aW P a Z g (λx g1=>fJ P b Z g1 (λxs g2=>Q (x::xs) g2) E) E
 |_,_,_,_,_=>False
noncomputable def dP(P:fb):ME->S->G->(Bool->G->Prop)->KX->Prop
 |.dS a b,Z,g,Q,E=>dP P a Z g (λt g1=>if t=true then dP P b Z g1 Q E else Q false g1) E
 |.gF a b,Z,g,Q,E=>dP P a Z g (λt g1=>if t=true then Q true g1 else dP P b Z g1 Q E) E
 |.de a,Z,g,Q,E=>dP P a Z g (λt g1=>Q (!t) g1) E
 |.no,_,g,Q,_=>Q true g
 |.eB e,Z,g,Q,E=>aW P e Z g (λx g1=>pR g1 x λb=>Q b g1) E
 |_,_,_,_,_=>False
noncomputable def gE(P:fb):ME->S->G->(IK->G->Prop)->KX->Prop
 |.eZ e,Z,g,R,E=>aW P e Z g (λx g1=>(∃l,x=.tup l/\R (.fix l) g1)\/∃a l,x=.ref a/\d7 g1 a=some l/\R (.lst a) g1) E
 |.fL a,Z,g,R,E=>aW P a Z g (λx g1=>∃j:Int,x=.int j/\-(2 ^ 62)<=j/\j<2 ^ 62/\R (.fix (E0 0 j.toNat)) g1) E
 |.jo a b,Z,g,R,E=>aW P a Z g (λx g1=>aW P b Z g1 (λy g2=>∃i j:Int,x=.int i/\y=.int j/\(-(2 ^ 62)<=i/\i<2 ^ 62/\-(2 ^ 62)<=j/\j<2 ^ 62)/\R (.fix (E0 i (j-i).toNat)) g2) E) E
 |.kL e,Z,g,R,E=>aW P e Z g (λx g1=>∃a l,x=.ref a/\d7 g1 a=some l/\R (.pI a) g1) E
 |.nP e,Z,g,R,E=>aW P e Z g (λx g1=>∃a l,x=.ref a/\d7 g1 a=some l/\R (.tS a l.length) g1) E
 |_,_,_,_,_=>False
end
set_option genInjectivity false in
set_option genSizeOf false in
inductive MS where
 |pass|seq (a b:MS)|expr (e:ME)|set (i:Nat) (e:ME)|nL (t:MT) (e:ME)|cS (o i v:ME)|gi (f:Str) (cs:List Str) (o v:ME)
 |kj (f:Str) (cs:List Str) (o v:ME)|kW (i:Nat) (p:Pr) (v:ME)|yz (o1 i1 o2 i2 e:ME)
 |ifs (c:ME) (a b:MS)|fg (t:MT) (it:ME) (b:MS)|kI (c:ME) (b:MS)|ret (e:ME)|rH|brk|cont
 |raise (x:Str) (es:ME)|pS (b:MS) (hs:List (Str×ME))
structure Ends where
 nx:S->G->Prop
 rt:KD
 bk:S->G->Prop:=λ_ _=>False
 ct:S->G->Prop:=λ_ _=>False
abbrev nK(P:fb)(N:Ends)(Z:S)(E:KX):List (Str×ME)->KX
 |[],x,g=>E x g
 |(y,e)::r,x,g=>if x.cls=y\/y="MintError" then aW P e Z g N.rt jt else nK P N Z E r x g
abbrev wpS(P:fb):MS->Ends->S->G->KX->Prop
 |.pass,N,Z,g,_=>N.nx Z g
 |.seq a b,N,Z,g,E=>wpS P a { N with nx:=λiN g1=>wpS P b N iN g1 E } Z g E
 |.expr e,N,Z,g,E=>aW P e Z g (λ_ g1=>N.nx Z g1) E
 |.set i e,N,Z,g,E=>aW P e Z g (λx g1=>N.nx (Z.set i (some x)) g1) E
 |.nL t e,N,Z,g,E=>aW P e Z g (λx g1=>jT t x Z λiN=>N.nx iN g1) E
 |.cS o i v,N,Z,g,E=>aW P v Z g (λx g1=>aW P o Z g1 (λy g2=>aW P i Z g2 (λz g3=>oB y z x g3 λg4=>N.nx Z g4) E) E) E
 |.gi f cs o v,N,Z,g,E=>aW P v Z g (λx g1=>aW P o Z g1 (λy g2=>xn f cs y x g2 λg3=>N.nx Z g3) E) E
 |.kj f cs o v,N,Z,g,E=>aW P o Z g (λy g1=>∃a c fs x,y=.ref a/\g1[a]?=some (.ins c fs)/\c∈cs/\fs.lookup f=some x/\aW P v Z g1 (λz g3=>cL .iadd [x,z] g3 λw g4=>∃ja,g4[a]?=some (.ins c ja)/\ja.length<100/\N.nx Z (g4.set a (.ins c (m7 f w ja)))) E) E
 |.yz o1 i1 o2 i2 e,N,Z,g,E=>aW P e Z g (λx g1=>∃u v,x=.tup [u,v]/\aW P o1 Z g1 (λy1 g2=>aW P i1 Z g2 (λz1 g3=>oB y1 z1 u g3 λg4=>aW P o2 Z g4 (λy2 g5=>aW P i2 Z g5 (λz2 g6=>oB y2 z2 v g6 λg7=>N.nx Z g7) E) E) E) E) E
 |.kW i p v,N,Z,g,E=>∃x,Z[i]?=some (some x)/\aW P v Z g (λz g1=>cL p [x,z] g1 λw g2=>N.nx (Z.set i (some w)) g2) E
 |.ifs c a b,N,Z,g,E=>dP P c Z g (λt g1=>if t=true then wpS P a N Z g1 E else wpS P b N Z g1 E) E
 |.fg t it b,N,Z,g,E=>gE P it Z g (λk g1=>turns k Z g1 N.nx λx N2 Z g=>jT t x Z λcz=>wpS P b { N with nx:=N2,ct:=N2,bk:=N.nx } cz g E) E
 |.kI c b,N,Z,g,E=>∃W:Nat->S->G->Prop,(∃m,W m Z g)/\∀m Z g,W m Z g->dP P c Z g (λt g1=>if t=true then ∃N2:S->G->Prop,(∀bV g',N2 bV g'->∃m',m'<m/\W m' bV g')/\wpS P b { N with nx:=N2,ct:=N2,bk:=N.nx } Z g1 E else N.nx Z g1) E
 |.ret e,N,Z,g,E=>aW P e Z g N.rt E
 |.rH,N,_,g,_=>N.rt .br g
 |.brk,N,Z,g,_=>N.bk Z g
 |.cont,N,Z,g,_=>N.ct Z g
 |.raise x es,_,Z,g,E=>fJ P es Z g (λvs g1=>vs.length<=1000/\E #[x] g1) E
 |.pS b hs,N,Z,g,E=>wpS P b N Z g (nK P N (Z.map λ_=>none) E hs)
structure aR where
 ar:Nat
 n:Nat
 body:MS
abbrev b9(m:aR)(ds:List D):S:=ds.map some++List.replicate (m.n-ds.length) none
abbrev b7(T:Nat->Option aR):Nat->fb
 |0,_,_,_,_,_=>False
 |k+1,f,ds,g,Q,E=>∃m,T f=some m/\ds.length=m.ar/\wpS (b7 T k) m.body #[λ_ g'=>Q .br g',Q,λ_ _=>False,λ_ _=>False] (b9 m ds) g E
end M
namespace M
open PySem L2
variable{g:G}{K:PySem.W.Frag}{H:Hp}{a p:Addr}{vs:List V}{i:Nat}{o:O}{u:HO}{l:List D}
def w5{p xs}{Q Q'}(h:∀d g,Q d g->Q' d g)(q:cL p xs g Q):cL p xs g Q':=by
 let#[d,g',a,b]:=q;exact#[d,g',a,h _ _ b]
def a64{x}{k k'}(h:∀b,k b->k' b)(q:pR g x k):pR g x k':=by
 let#[b,a,z]:=q;exact#[b,a,h _ z]
def zY{x y v}{k k'}(h:∀g,k g->k' g)(q:oB x y v g k):oB x y v g k':=by
 let#[b,a,z]:=q;exact#[b,a,h _ z]
def a03{f cs x v}{k k'}(h:∀g,k g->k' g)(q:xn f cs x v g k):xn f cs x v g k':=by
 let#[b,a,z]:=q;exact#[b,a,h _ z]
def A8{t x Z}{k k'}(h:∀Z,k Z->k' Z)(q:jT t x Z k):jT t x Z k':=by
 cases t with
 |one i=>exact h _ q
 |many is=>let#[l,bV,a,b,c]:=q;exact#[l,bV,a,b,h _ c]
def aZ2{k Z g}{fin ki}{turn ik}(h:∀Z g,fin Z g->ki Z g)(h2:∀x N Z g,turn x N Z g->ik x N Z g)(q:turns k Z g fin turn):turns k Z g ki ik:=by
 let#[W,w0,q]:=q;refine#[W,w0,λi m Z g w=>?_];rcases q i m Z g w with⟨a,b⟩|⟨x,a,N2,b,c⟩
 ·exact .inl #[a,h _ _ b]
 ·exact .inr #[x,a,N2,b,h2 _ _ _ _ c]
def aR5{k Z g}{fin ki}{turn ik}(h:∀ys g,fin ys g->ki ys g)(h2:∀x N Z g,turn x N Z g->ik x N Z g)(q:FQ k Z g fin turn):FQ k Z g ki ik:=by
 let#[W,w0,q]:=q;refine#[W,w0,λi m ys Z g w=>?_];rcases q i m ys Z g w with⟨a,b⟩|⟨x,a,b,c⟩
 ·exact .inl #[a,h _ _ b]
 ·exact .inr #[x,a,b,h2 _ _ _ _ c]
def aR4{k Z g}{fin ki}{turn ik}(h:∀ys g,fin ys g->ki ys g)(h2:∀x N Z g,turn x N Z g->ik x N Z g)(q:FR k Z g fin turn):FR k Z g ki ik:=by
 let#[W,w0,q]:=q;refine#[W,w0,λi m ys Z g w=>?_];rcases q i m ys Z g w with⟨a,b,c⟩|⟨x,a,b,c⟩
 ·exact .inl #[a,b,h _ _ c]
 ·exact .inr #[x,a,b,h2 _ _ _ _ c]
def N4{t:Bool}{A B A' B':Prop}(h1:A->A')(h2:B->B')(q:if t=true then A else B):if t=true then A' else B':=by
 cases t
 ·exact h2 q
 ·exact h1 q
abbrev j8(P:fb):Prop:=∀f xs g Q Q' E E',(∀d g,Q d g->Q' d g)->(∀x g,E x g->E' x g)->P f xs g Q E->P f xs g Q' E'
mutual
def c9{P}(hP:j8 P):∀(e:ME) (Z:S) (g:G) (Q Q':KD) (E E':KX),(∀d g,Q d g->Q' d g)->(∀x g,E x g->E' x g)->aW P e Z g Q E->aW P e Z g Q' E'
 |.var i,Z,g,Q,Q',E,E',h,hx,q=>by
  let#[d,a,b]:=q;exact#[d,a,h _ _ b]
 |.lit d,Z,g,Q,Q',E,E',h,hx,q=>by exact h _ _ q
 |.prim p es,Z,g,Q,Q',E,E',h,hx,q=>by
  exact K3 hP es _ _ _ _ _ _ (λxs g1 q=>w5 h q) hx q
 |.fu p o es,Z,g,Q,Q',E,E',h,hx,q=>by
  exact c9 hP o _ _ _ _ _ _ (λx g1 q=>#[q.1,K3 hP es _ _ _ _ _ _ (λxs g2 q=>w5 h q) hx q.2]) hx q
 |.oo es,Z,g,Q,Q',E,E',h,hx,q=>by
  exact K3 hP es _ _ _ _ _ _ (by rintro xs g1 ⟨kvs,a,b,c,d⟩;exact #[kvs,a,b,c,h _ _ d]) hx q
 |.chain o1 o2 a b c,Z,g,Q,Q',E,E',h,hx,q=>by
  refine c9 hP a _ _ _ _ _ _ (λx g1 q=>c9 hP b _ _ _ _ _ _ (λy g2 q=>w5 (λz g3 q=>?_) q) hx q) hx q;let#[t,e,q]:=q;exact#[t,e,N4 (λq=>c9 hP c _ _ _ _ _ _ (λw g4 q=>w5 h q) hx q) (h _ _) q]
 |.dS a b,Z,g,Q,Q',E,E',h,hx,q=>by
  refine c9 hP a _ _ _ _ _ _ (λx g1 q=>?_) hx q;let#[t,e,q]:=q;exact#[t,e,N4 (λq=>c9 hP b _ _ _ _ _ _ h hx q) (h _ _) q]
 |.gF a b,Z,g,Q,Q',E,E',h,hx,q=>by
  refine c9 hP a _ _ _ _ _ _ (λx g1 q=>?_) hx q;let#[t,e,q]:=q;exact#[t,e,N4 (h _ _) (λq=>c9 hP b _ _ _ _ _ _ h hx q) q]
 |.de a,Z,g,Q,Q',E,E',h,hx,q=>by
  refine c9 hP a _ _ _ _ _ _ (λx g1 q=>?_) hx q;let#[t,e,q]:=q;exact#[t,e,h _ _ q]
 |.ite c a b,Z,g,Q,Q',E,E',h,hx,q=>by
  exact u7 hP c _ _ _ _ _ _ (λt g1 q=>N4 (λq=>c9 hP a _ _ _ _ _ _ h hx q) (λq=>c9 hP b _ _ _ _ _ _ h hx q) q) hx q
 |.call f es,Z,g,Q,Q',E,E',h,hx,q=>by
  exact K3 hP es _ _ _ _ _ _ (λxs g1 q=>hP _ _ _ _ _ _ _ h hx q) hx q
 |.make c f es,Z,g,Q,Q',E,E',h,hx,q=>by
  exact K3 hP es _ _ _ _ _ _ (λxs g1 q=>hP _ _ _ _ _ _ _ (λd g2 q=>#[q.1,h _ _ q.2]) hx q) hx q
 |.bK m cs o es,Z,g,Q,Q',E,E',h,hx,q=>by
  refine c9 hP o _ _ _ _ _ _ (λx g1 q=>?_) hx q;let#[a,c,fs,f,q1,q2,q3,q4,q]:=q;exact#[a,c,fs,f,q1,q2,q3,q4,K3 hP es _ _ _ _ _ _ (λxs g2 q=>hP _ _ _ _ _ _ _ h hx q) hx q]
 |.comp d6 n tg it cond elt,Z,g,Q,Q',E,E',h,hx,q=>by
  exact F5 hP it _ _ _ _ _ _ (λk g1 q=>aR5 (λys g q=>h _ _ q) (λ_ _ _ _ q=>q) q) hx q
 |.gT d6 n tg it cond elt,Z,g,Q,Q',E,E',h,hx,q=>by
  exact F5 hP it _ _ _ _ _ _ (λk g1 q=>aR4 (λys g q=>h _ _ q) (λ_ _ _ _ q=>q) q) hx q
 |.nil,Z,g,Q,Q',E,E',h,hx,q=>(show False from q).elim
 |.cons _ _,Z,g,Q,Q',E,E',h,hx,q=>(show False from q).elim
 |.eZ _,Z,g,Q,Q',E,E',h,hx,q=>(show False from q).elim
 |.fL _,Z,g,Q,Q',E,E',h,hx,q=>(show False from q).elim
 |.jo _ _,Z,g,Q,Q',E,E',h,hx,q=>(show False from q).elim
 |.kL _,Z,g,Q,Q',E,E',h,hx,q|.nP _,Z,g,Q,Q',E,E',h,hx,q=>(show False from q).elim
 |.eB _,Z,g,Q,Q',E,E',h,hx,q=>(show False from q).elim
 |.no,Z,g,Q,Q',E,E',h,hx,q=>(show False from q).elim
def K3{P}(hP:j8 P):∀(e:ME) (Z:S) (g:G) (Q Q':List D->G->Prop) (E E':KX),(∀d g,Q d g->Q' d g)->(∀x g,E x g->E' x g)->fJ P e Z g Q E->fJ P e Z g Q' E'
 |.nil,Z,g,Q,Q',E,E',h,hx,q=>by exact h _ _ q
 |.cons a b,Z,g,Q,Q',E,E',h,hx,q=>by
  exact c9 hP a _ _ _ _ _ _ (λx g1 q=>K3 hP b _ _ _ _ _ _ (λxs g2 q=>h _ _ q) hx q) hx q
 |.var _,Z,g,Q,Q',E,E',h,hx,q|.lit _,Z,g,Q,Q',E,E',h,hx,q|.prim _ _,Z,g,Q,Q',E,E',h,hx,q|.fu _ _ _,Z,g,Q,Q',E,E',h,hx,q|.oo _,Z,g,Q,Q',E,E',h,hx,q|.chain _ _ _ _ _,Z,g,Q,Q',E,E',h,hx,q|.dS _ _,Z,g,Q,Q',E,E',h,hx,q|.gF _ _,Z,g,Q,Q',E,E',h,hx,q|.de _,Z,g,Q,Q',E,E',h,hx,q|.ite _ _ _,Z,g,Q,Q',E,E',h,hx,q|.call _ _,Z,g,Q,Q',E,E',h,hx,q
 |.make _ _ _,Z,g,Q,Q',E,E',h,hx,q|.bK _ _ _ _,Z,g,Q,Q',E,E',h,hx,q|.comp _ _ _ _ _ _,Z,g,Q,Q',E,E',h,hx,q|.gT _ _ _ _ _ _,Z,g,Q,Q',E,E',h,hx,q|.eZ _,Z,g,Q,Q',E,E',h,hx,q|.fL _,Z,g,Q,Q',E,E',h,hx,q|.jo _ _,Z,g,Q,Q',E,E',h,hx,q|.kL _,Z,g,Q,Q',E,E',h,hx,q|.nP _,Z,g,Q,Q',E,E',h,hx,q|.eB _,Z,g,Q,Q',E,E',h,hx,q|.no,Z,g,Q,Q',E,E',h,hx,q=>(show False from q).elim
def u7{P}(hP:j8 P):∀(e:ME) (Z:S) (g:G) (Q Q':Bool->G->Prop) (E E':KX),(∀d g,Q d g->Q' d g)->(∀x g,E x g->E' x g)->dP P e Z g Q E->dP P e Z g Q' E'
 |.dS a b,Z,g,Q,Q',E,E',h,hx,q=>by
  exact u7 hP a _ _ _ _ _ _ (λt g1 q=>N4 (λq=>u7 hP b _ _ _ _ _ _ h hx q) (h _ _) q) hx q
 |.gF a b,Z,g,Q,Q',E,E',h,hx,q=>by
  exact u7 hP a _ _ _ _ _ _ (λt g1 q=>N4 (h _ _) (λq=>u7 hP b _ _ _ _ _ _ h hx q) q) hx q
 |.de a,Z,g,Q,Q',E,E',h,hx,q=>by exact u7 hP a _ _ _ _ _ _ (λt g1 q=>h _ _ q) hx q
 |.no,Z,g,Q,Q',E,E',h,hx,q=>by exact h _ _ q
 |.eB e,Z,g,Q,Q',E,E',h,hx,q=>by exact c9 hP e _ _ _ _ _ _ (λx g1 q=>a64 (λb q=>h _ _ q) q) hx q
 |.var _,Z,g,Q,Q',E,E',h,hx,q|.lit _,Z,g,Q,Q',E,E',h,hx,q|.prim _ _,Z,g,Q,Q',E,E',h,hx,q|.fu _ _ _,Z,g,Q,Q',E,E',h,hx,q|.oo _,Z,g,Q,Q',E,E',h,hx,q|.chain _ _ _ _ _,Z,g,Q,Q',E,E',h,hx,q|.ite _ _ _,Z,g,Q,Q',E,E',h,hx,q|.call _ _,Z,g,Q,Q',E,E',h,hx,q|.nil,Z,g,Q,Q',E,E',h,hx,q|.cons _ _,Z,g,Q,Q',E,E',h,hx,q
 |.make _ _ _,Z,g,Q,Q',E,E',h,hx,q|.bK _ _ _ _,Z,g,Q,Q',E,E',h,hx,q|.comp _ _ _ _ _ _,Z,g,Q,Q',E,E',h,hx,q|.gT _ _ _ _ _ _,Z,g,Q,Q',E,E',h,hx,q|.eZ _,Z,g,Q,Q',E,E',h,hx,q|.fL _,Z,g,Q,Q',E,E',h,hx,q|.jo _ _,Z,g,Q,Q',E,E',h,hx,q|.kL _,Z,g,Q,Q',E,E',h,hx,q|.nP _,Z,g,Q,Q',E,E',h,hx,q=>(show False from q).elim
def F5{P}(hP:j8 P):∀(e:ME) (Z:S) (g:G) (Q Q':IK->G->Prop) (E E':KX),(∀d g,Q d g->Q' d g)->(∀x g,E x g->E' x g)->gE P e Z g Q E->gE P e Z g Q' E'
 |.eZ e,Z,g,Q,Q',E,E',h,hx,q=>by
  exact c9 hP e _ _ _ _ _ _ (λx g1 q=>q.imp (by rintro ⟨l,a,b⟩;exact #[l,a,h _ _ b]) (by rintro ⟨i,l,a,b,c⟩;exact #[i,l,a,b,h _ _ c])) hx q
 |.fL a,Z,g,Q,Q',E,E',h,hx,q=>by
  exact c9 hP a _ _ _ _ _ _ (by rintro x g1 ⟨j,a,b,c,d⟩;exact #[j,a,b,c,h _ _ d]) hx q
 |.jo a b,Z,g,Q,Q',E,E',h,hx,q=>by
  exact c9 hP a _ _ _ _ _ _ (λx g1 q=>c9 hP b _ _ _ _ _ _ (by rintro y g2 ⟨i,j,a,b,c,d⟩;exact #[i,j,a,b,c,h _ _ d]) hx q) hx q
 |.kL e,Z,g,Q,Q',E,E',h,hx,q=>by
  exact c9 hP e _ _ _ _ _ _ (by rintro x g1 ⟨i,l,a,b,c⟩;exact #[i,l,a,b,h _ _ c]) hx q
 |.nP e,Z,g,Q,Q',E,E',h,hx,q=>by
  exact c9 hP e _ _ _ _ _ _ (by rintro x g1 ⟨i,l,a,b,c⟩;exact #[i,l,a,b,h _ _ c]) hx q
 |.var _,Z,g,Q,Q',E,E',h,hx,q|.lit _,Z,g,Q,Q',E,E',h,hx,q|.prim _ _,Z,g,Q,Q',E,E',h,hx,q|.fu _ _ _,Z,g,Q,Q',E,E',h,hx,q|.oo _,Z,g,Q,Q',E,E',h,hx,q|.chain _ _ _ _ _,Z,g,Q,Q',E,E',h,hx,q|.ite _ _ _,Z,g,Q,Q',E,E',h,hx,q|.call _ _,Z,g,Q,Q',E,E',h,hx,q|.nil,Z,g,Q,Q',E,E',h,hx,q|.cons _ _,Z,g,Q,Q',E,E',h,hx,q
 |.dS _ _,Z,g,Q,Q',E,E',h,hx,q|.gF _ _,Z,g,Q,Q',E,E',h,hx,q|.de _,Z,g,Q,Q',E,E',h,hx,q|.eB _,Z,g,Q,Q',E,E',h,hx,q|.no,Z,g,Q,Q',E,E',h,hx,q
 |.make _ _ _,Z,g,Q,Q',E,E',h,hx,q|.bK _ _ _ _,Z,g,Q,Q',E,E',h,hx,q|.comp _ _ _ _ _ _,Z,g,Q,Q',E,E',h,hx,q|.gT _ _ _ _ _ _,Z,g,Q,Q',E,E',h,hx,q=>(show False from q).elim
end
structure Ends.le(N N':Ends):Prop where
 nx:∀Z g,N.nx Z g->N'.nx Z g
 rt:∀d g,N.rt d g->N'.rt d g
 bk:∀Z g,N.bk Z g->N'.bk Z g
 ct:∀Z g,N.ct Z g->N'.ct Z g
def NN{P}(hP:j8 P){N N'}{E E'}(h:N.le N')(hx:∀x g,E x g->E' x g){Z}:∀(hs:List (Str×ME)) x g,nK P N Z E hs x g->nK P N' Z E' hs x g
 |[],x,g,q=>hx x g q
 |(y,e)::r,x,g,q=>by
  unfold nK at q ⊢;split
  ·rename_i hh;rw[aH hh] at q;exact c9 hP e _ _ _ _ _ _ h.rt (λ_ _ z=>z) q
  ·rename_i hh;rw[az hh] at q;exact NN hP h hx r x g q
def wpS_mono{P}(hP:j8 P):∀(s:MS) (N N':Ends) (Z:S) (g:G) (E E':KX),N.le N'->(∀x g,E x g->E' x g)->wpS P s N Z g E->wpS P s N' Z g E'
 |.pass,N,N',Z,g,E,E',h,hx,q=>h.nx _ _ q
 |.seq a b,N,N',Z,g,E,E',h,hx,q=>wpS_mono hP a { N with nx:=λiN g1=>wpS P b N iN g1 E } { N' with nx:=λiN g1=>wpS P b N' iN g1 E' } _ _ _ _ #[λiN g1 q=>wpS_mono hP b _ _ _ _ _ _ h hx q,h.rt,h.bk,h.ct] hx q
 |.expr e,N,N',Z,g,E,E',h,hx,q=>c9 hP e _ _ _ _ _ _ (λx g1 q=>h.nx _ _ q) hx q
 |.set i e,N,N',Z,g,E,E',h,hx,q=>c9 hP e _ _ _ _ _ _ (λx g1 q=>h.nx _ _ q) hx q
 |.nL t e,N,N',Z,g,E,E',h,hx,q=>c9 hP e _ _ _ _ _ _ (λx g1 q=>A8 (λZ q=>h.nx _ _ q) q) hx q
 |.cS o i v,N,N',Z,g,E,E',h,hx,q=>c9 hP v _ _ _ _ _ _ (λx g1 q=>c9 hP o _ _ _ _ _ _ (λy g2 q=>c9 hP i _ _ _ _ _ _ (λz g3 q=>zY (λg q=>h.nx _ _ q) q) hx q) hx q) hx q
 |.gi f cs o v,N,N',Z,g,E,E',h,hx,q=>c9 hP v _ _ _ _ _ _ (λx g1 q=>c9 hP o _ _ _ _ _ _ (λy g2 q=>a03 (λg q=>h.nx _ _ q) q) hx q) hx q
 | .kj f cs o v,N,N',Z,g,E,E',h,hx,q=>c9 hP o _ _ _ _ _ _ (λy g1 q=>by
   let#[a,c,fs,x,q1,q2,q3,q4,q]:=q;exact #[a,c,fs,x,q1,q2,q3,q4,c9 hP v _ _ _ _ _ _ (λz g3 q=>w5 (λw g4 q=>by
    let#[ja,k1,k2,k3]:=q;exact #[ja,k1,k2,h.nx _ _ k3]) q) hx q]) hx q
 |.yz o1 i1 o2 i2 e,N,N',Z,g,E,E',h,hx,q=>c9 hP e _ _ _ _ _ _ (λx g1 q=>let ⟨u,v,q1,q⟩:=q;#[u,v,q1,c9 hP o1 _ _ _ _ _ _ (λy g2 q=>c9 hP i1 _ _ _ _ _ _ (λz g3 q=>zY (λg4 q=>c9 hP o2 _ _ _ _ _ _ (λy g5 q=>c9 hP i2 _ _ _ _ _ _ (λz g6 q=>zY (λg q=>h.nx _ _ q) q) hx q) hx q) q) hx q) hx q]) hx q
 |.kW i p v,N,N',Z,g,E,E',h,hx,q=>let ⟨x,q1,q⟩:=q;#[x,q1,c9 hP v _ _ _ _ _ _ (λz g1 q=>w5 (λw g2 q=>h.nx _ _ q) q) hx q]
 |.ifs c a b,N,N',Z,g,E,E',h,hx,q=>u7 hP c _ _ _ _ _ _ (λt g1 q=>N4 (λq=>wpS_mono hP a _ _ _ _ _ _ h hx q) (λq=>wpS_mono hP b _ _ _ _ _ _ h hx q) q) hx q
 |.fg t it b,N,N',Z,g,E,E',h,hx,q=>F5 hP it _ _ _ _ _ _ (λk g1 q=>aZ2 h.nx (λx N2 Z g q=>A8 (λcz q=>wpS_mono hP b { N with nx:=N2,ct:=N2,bk:=N.nx } { N' with nx:=N2,ct:=N2,bk:=N'.nx } _ _ _ _ #[λ_ _ z=>z,h.rt,h.nx,λ_ _ z=>z] hx q) q) q) hx q
 |.kI c b,N,N',Z,g,E,E',h,hx,q=>by
  let#[W,w0,q]:=q;refine#[W,w0,λm Z g w=>u7 hP c _ _ _ _ _ _ (λt g1 q=>N4 (λq=>?_) (h.nx _ _) q) hx (q m Z g w)];let#[N2,a,q]:=q;exact#[N2,a,wpS_mono hP b { N with nx:=N2,ct:=N2,bk:=N.nx } { N' with nx:=N2,ct:=N2,bk:=N'.nx } _ _ _ _ #[λ_ _ z=>z,h.rt,h.nx,λ_ _ z=>z] hx q]
 |.ret e,N,N',Z,g,E,E',h,hx,q=>c9 hP e _ _ _ _ _ _ h.rt hx q
 |.rH,N,N',Z,g,E,E',h,hx,q=>h.rt _ _ q
 |.brk,N,N',Z,g,E,E',h,hx,q=>h.bk _ _ q
 |.cont,N,N',Z,g,E,E',h,hx,q=>h.ct _ _ q
 |.raise x es,N,N',Z,g,E,E',h,hx,q=>K3 hP es _ _ _ _ _ _ (λvs g1 q=>#[q.1,hx _ _ q.2]) hx q
 |.pS b hs,N,N',Z,g,E,E',h,hx,q=>wpS_mono hP b _ _ _ _ _ _ h (λx g q=>NN hP h hx hs x g q) q
def a8(T:Nat->Option aR):∀k,j8 (b7 T k)
 |0=>λf xs g Q Q' E E' h hx q=>q.elim
 |k+1=>λf xs g Q Q' E E' h hx q=>by
  let#[m,a,b,q]:=q;exact#[m,a,b,wpS_mono (a8 T k) m.body #[λ_ g'=>Q .br g',Q,λ_ _=>False,λ_ _=>False] _ _ _ _ _ #[λ_ _ z=>h _ _ z,h,λ_ _ z=>z,λ_ _ z=>z] hx q]
abbrev TupAt(K:PySem.W.Frag)(H:Hp)(a:Addr)(vs:List V):Prop :=
 H a=some (.tup vs)\/∃(o:Obj) (aU:Array Value) (n:Nat),K.lookup a=some o/\o.cls=.type "tuple"/\o.dict=none/\o.data=.seq aU n/\aU.size<=sizeLine/\Vals vs aU.toList
def TupAt.d(h:TupAt K H a vs):DT K H a vs:=h
def TupAt.sq{K}{H}{a}{vs}(h:TupAt K H a vs):ig K H a vs:=h.d.sq
mutual
inductive f7(K:PySem.W.Frag)(ρ:List Addr)(H:Hp):D->V->Prop
 |br:f7 K ρ H .br .br
 |bl (b:Bool):f7 K ρ H (.bl b) (.bl b)
 |int (i:Int):f7 K ρ H (.int i) (.int i)
 |str (x:Str):f7 K ρ H (.str x) (.str x)
 |ty (n:String):f7 K ρ H (.ty n) (.ty n)
 |ref {i:Nat} {a:Addr} (h:ρ[i]?=some a):f7 K ρ H (.ref i) (.ref a)
 |tup {l:List D} {a:Addr} {vs:List V} (h:TupAt K H a vs) (r:c8 K ρ H l vs):f7 K ρ H (.tup l) (.ref a)
inductive c8(K:PySem.W.Frag)(ρ:List Addr)(H:Hp):List D->List V->Prop
 |nil:c8 K ρ H [] []
 |cons {d:D} {v:V} {ds:List D} {vs:List V} (h:f7 K ρ H d v) (r:c8 K ρ H ds vs):c8 K ρ H (d::ds) (v::vs)
end
structure Ext(ρ:List Addr)(H:Hp)(bT:List Addr)(H':Hp):Prop where
 pre:∃more,bT=ρ++more
 tup:∀a xs,H a=some (.tup xs)->H' a=some (.tup xs)
def Ext.refl(ρ:List Addr)(H:Hp):Ext ρ H ρ H:=#[#[[],by simp],λ_ _ h=>h]
def Ext.trans{ρ H cc H1 eR H2}(a:Ext ρ H cc H1)(b:Ext cc H1 eR H2):Ext ρ H eR H2:=by
 let#[#[m,rfl],t]:=a;let#[#[m',rfl],t']:=b;exact#[#[m++m',by simp],λx xs h=>t' _ _ (t _ _ h)]
def Ext.get{ρ H bT H'}(e:Ext ρ H bT H')(h:ρ[i]?=some a):bT[i]?=some a:=by
 let#[#[m,rfl],_]:=e;rw[aK (aw.mp h).1];exact h
def TupAt.ext{K ρ H bT H'}(e:Ext ρ H bT H')(h:TupAt K H a vs):TupAt K H' a vs:=h.elim (λz=>.inl (e.tup _ _ z)) .inr
mutual
def f7.ext{K ρ H bT H'}(e:Ext ρ H bT H'):∀{d v},f7 K ρ H d v->f7 K bT H' d v
 |_,_,.br=>.br
 |_,_,.bl b=>.bl b
 |_,_,.int i=>.int i
 |_,_,.str x=>.str x
 |_,_,.ty n=>.ty n
 |_,_,.ref h=>.ref (e.get h)
 |_,_,.tup h r=>.tup (h.ext e) (c8.ext e r)
def c8.ext{K ρ H bT H'}(e:Ext ρ H bT H'):∀{ds vs},c8 K ρ H ds vs->c8 K bT H' ds vs
 |_,_,.nil=>.nil
 |_,_,.cons h r=>.cons (f7.ext e h) (c8.ext e r)
end
def c8.length{K ρ H}{ds}{vs}(h:c8 K ρ H ds vs):ds.length=vs.length:=by
 induction ds generalizing vs with
 |nil=>cases h;rfl
 |cons d ds ih =>
  cases h with
  |cons q r=>simp[ih r]
def c8.get{K ρ H}:∀{ds vs} {i:Nat} {d:D},c8 K ρ H ds vs->ds[i]?=some d->∃v,vs[i]?=some v/\f7 K ρ H d v
 |_,_,_,_,.nil,h=>by simp at h
 |_,_,0,_,.cons h _,e=>by simp at e;subst e;exact#[_,rfl,h]
 |_,_,i+1,d,.cons _ r,e=>by
  let#[v,h1,h2]:=c8.get (i:=i) (d:=d) r (by simpa using e);exact#[v,by simpa using h1,h2]
def c8.set{K ρ H}{d}{v}(h:f7 K ρ H d v):∀{ds vs} (i:Nat),c8 K ρ H ds vs->c8 K ρ H (ds.set i d) (vs.set i v)
 |_,_,_,.nil=>.nil
 |_,_,0,.cons _ r=>.cons h r
 |_,_,i+1,.cons q r=>.cons q (c8.set h i r)
def c8.append{K ρ H}{ds es}{ws}(h:c8 K ρ H ds vs)(s:c8 K ρ H es ws):c8 K ρ H (ds++es) (vs++ws):=by
 induction ds generalizing vs with
 |nil=>cases h;exact s
 |cons d ds ih =>
  cases h with
  |cons q r=>exact .cons q (ih r)
def c8.rep{K ρ H}{ds}{vs}(r:c8 K ρ H ds vs):∀n,c8 K ρ H (List.replicate n ds).flatten (List.replicate n vs).flatten
 |0=>.nil
 |n+1=>by
  exact c8.append r (c8.rep r n)
def c8.erase{K ρ H}:∀{ds:List D} {vs:List V} (i:Nat),c8 K ρ H ds vs->c8 K ρ H (ds.eraseIdx i) (vs.eraseIdx i)
 |_,_,_,.nil=>.nil
 |_,_,0,.cons _ r=>r
 |_,_,i+1,.cons q r=>.cons q (c8.erase i r)
def c8.take{K ρ H}:∀{ds:List D} {vs:List V} (n:Nat),c8 K ρ H ds vs->c8 K ρ H (ds.take n) (vs.take n)
 |_,_,0,_=>.nil
 |_,_,_+1,.nil=>.nil
 |_,_,n+1,.cons h r=>.cons h (c8.take n r)
def c8.drop{K ρ H}:∀{ds:List D} {vs:List V} (n:Nat),c8 K ρ H ds vs->c8 K ρ H (ds.drop n) (vs.drop n)
 |_,_,0,r=>r
 |_,_,_+1,.nil=>.nil
 |_,_,n+1,.cons _ r=>c8.drop n r
def c8.reverse{K ρ H}:∀{ds:List D} {vs:List V},c8 K ρ H ds vs->c8 K ρ H ds.reverse vs.reverse
 |_,_,.nil=>.nil
 |_,_,.cons h r=>by
  rw[gJ,gJ];exact c8.append (c8.reverse r) (.cons h .nil)
def c8.cut{K ρ H}{ds}{vs}(r:c8 K ρ H ds vs)(lo hi:Option Int):c8 K ρ H (M.cut ds lo hi) (ny vs lo hi):=by
 unfold M.cut ny;rw[r.length];exact(r.drop _).take _
def c8.ints{K ρ H}:∀{ns:List Int} {vs:List V},c8 K ρ H (ns.map D.int) vs->vs=ns.map V.int
 |[],_,.nil=>rfl
 |_::_,_,.cons h r=>by cases h;rw[c8.ints r];rfl
def c8.ofInts{K ρ H}:∀(ns:List Int),c8 K ρ H (ns.map D.int) (ns.map V.int)
 |[]=>.nil
 |n::r=>.cons (.int n) (c8.ofInts r)
abbrev ur(K:PySem.W.Frag)(H:Hp)(a:Addr)(vs:List V):Prop :=
 (∃o,H a=some (.jJ o (.lst vs)))\/∃(o:Obj) (aU:Array Value) (n:Nat),K.lookup a=some o/\o.cls=.type "list"/\o.dict=none/\o.data=.seq aU n/\aU.size<=sizeLine/\Vals vs aU.toList
def ur.sq(h:ur K H a vs):fq K H a vs:=h.elim (by rintro ⟨o,z⟩;exact .inl (.inr #[o,z])) .inr
inductive i9{α:Type}(K:PySem.W.Frag)(ρ:List Addr)(H:Hp):List (α×D)->List (α×V)->Prop
 |nil:i9 K ρ H [] []
 |cons {k:α} {d:D} {v:V} {ds:List (α×D)} {vs:List (α×V)} (h:f7 K ρ H d v) (r:i9 K ρ H ds vs):i9 K ρ H ((k,d)::ds) ((k,v)::vs)
def i9.ext{α:Type}{K ρ H bT H'}(e:Ext ρ H bT H'){ds:List (α×D)}{vs:List (α×V)}(h:i9 K ρ H ds vs):i9 K bT H' ds vs:=by
 induction h with
 |nil=>exact .nil
 |cons h r ih=>exact .cons (h.ext e) ih
def i9.drop{K ρ H}{ds}{vs}(k:Key)(h:i9 K ρ H ds vs):i9 K ρ H (delD ds k) (tj vs k):=by
 unfold delD tj
 induction h with
 |nil=>exact .nil
 |cons h r ih =>
  rw[dE,dE];split
  ·exact .cons h ih
  ·exact ih
def i9.get{α:Type}{K ρ H}{ds}{vs}(h:i9 K ρ H ds vs):∀{i:Nat} {k:α} {d:D},ds[i]?=some (k,d)->∃v,vs[i]?=some (k,v)/\f7 K ρ H d v:=by
 induction h with
 |nil=>intro i k d e;simp at e
 |cons h r ih =>
  intro i k d e;cases i with
  |zero=>simp at e;let#[rfl,rfl]:=e;exact#[_,rfl,h]
  |succ i=>simpa using ih (by simpa using e)
def i9.length{α:Type}{K ρ H}{ds:List (α×D)}{vs:List (α×V)}(h:i9 K ρ H ds vs):ds.length=vs.length:=by
 induction h with
 |nil=>rfl
 |cons h r ih=>simp[ih]
abbrev sX(K:PySem.W.Frag)(ρ:List Addr)(H:Hp):Option D->Option V->Prop
 |some d,some v=>f7 K ρ H d v
 |none,none=>True
 |_,_=>False
def i9.val{K ρ H}:∀{ds vs} (k:Key),i9 K ρ H ds vs->sX K ρ H (v8 ds k) (R8 vs k)
 |_,_,k,.nil=>trivial
 |_,_,k,.cons (k:=k') h r=>by
  unfold v8 R8;rw[df,df];by_cases e:k'=k
  ·simp only[e,decide_true];exact h
  ·simp only[e,decide_false];exact i9.val k r
def i9.Jg{K ρ H}:∀{ds vs} (k:Key),i9 K ρ H ds vs->(ds.any λkv=>decide (kv.1=k))=(vs.any λkv=>decide (kv.1=k))
 |_,_,k,.nil=>rfl
 |_,_,k,.cons h r=>by simp only[List.any_cons,i9.Jg k r]
def i9.snoc{K ρ H}{k:Key}{d:D}{v:V}(h:f7 K ρ H d v){ds vs}(t:i9 K ρ H ds vs):i9 K ρ H (ds++[(k,d)]) (vs++[(k,v)]):=by
 induction ds generalizing vs with
 |nil=>cases t;exact .cons h .nil
 |cons d ds ih =>
  cases t with
  |cons q r=>exact .cons q (ih r)
def i9.FH{K ρ H}{k:Key}{d:D}{v:V}(h:f7 K ρ H d v):∀{ds vs},i9 K ρ H ds vs->i9 K ρ H (ds.map λkv=>if kv.1=k then(kv.1,d) else kv) (vs.map λkv=>if kv.1=k then(kv.1,v) else kv)
 |_,_,.nil=>.nil
 |_,_,.cons (k:=k') q r=>by
  simp only[List.map_cons];by_cases e:k'=k
  ·rw[aH e,aH e];exact .cons h (i9.FH h r)
  ·rw[az e,az e];exact .cons q (i9.FH h r)
def i9.put{K ρ H}{k}{d}{v}(h:f7 K ρ H d v){ds vs}(r:i9 K ρ H ds vs):i9 K ρ H (putD ds k d) (putK vs k v):=by
 unfold putD putK;rw[r.Jg k];split
 ·exact r.FH h
 ·exact r.snoc h
noncomputable abbrev v5(K:PySem.W.Frag)(x:Str)(C:Addr):Prop:=PySem.W.nsIn K mainGlobals x=some (some (.ref C))
def i9.look{K ρ H}{ds}{vs}(f:Str)(h:i9 K ρ H ds vs):sX K ρ H (ds.lookup f) (vs.lookup f):=by
 induction h with
 |nil=>trivial
 |cons h r ih =>
  rename_i k d v ds vs;rw[dC,dC];cases f==k
  ·exact ih
  ·exact h
def i9.y9{K ρ H}{f}{d}{v}(h:f7 K ρ H d v){ds}{vs}(r:i9 K ρ H ds vs):i9 K ρ H (m7 f d ds) (L2.y9 f v vs):=by
 induction r with
 |nil=>exact .cons h .nil
 |cons q r ih =>
  unfold m7 L2.y9;split
  ·exact .cons h r
  ·exact .cons q ih
def EX{f}{d}{p:Str->Prop}(hf:p f):∀{ds:List (Str×D)},(∀x∈ds,p x.1)->∀x∈m7 f d ds,p x.1
 |[],_,x,hx=>by
  have:x=(f,d):=by simpa[m7] using hx
  simp_all
 |(k,e)::r,h,x,hx=>by
  unfold m7 at hx;split at hx
  ·rcases aF.mp hx with z|z
   ·rw[z];exact h (k,e) #[_]
   ·exact h x (by simp[z])
  ·rcases aF.mp hx with z|z
   ·rw[z];exact h (k,e) #[_]
   ·exact EX hf (λy hy=>h y (by simp[hy])) x z
abbrev OH(K:PySem.W.Frag)(ρ:List Addr)(H:Hp):O->HO->Prop
 |.lst l,.lst vs=>c8 K ρ H l vs
 |.cg kvs,.dK vs=>i9 K ρ H kvs vs
 |.set S n,.set S' n'=>S=S'/\n=n'
 |.ins c fs,.ins C _ vs=>v5 K c C/\je K C/\i9 K ρ H fs vs/\∀x∈fs,D9 K C x.1
 |_,_=>False
def OH.ext{K ρ H bT H'}(e:Ext ρ H bT H'){o}{u}(h:OH K ρ H o u):OH K bT H' o u:=by
 cases o<;>cases u<;>first|exact h.elim|exact c8.ext e h|exact i9.ext e h|exact#[h.1,h.2.1,h.2.2.1.ext e,h.2.2.2]|exact h
def OH.uz{K ρ H}{xs}(h:OH K ρ H o (.tup xs)):False:=by cases o<;>exact h
def OH.Xy{K ρ H}{ob}(h:OH K ρ H o (.jJ ob u)):False:=by cases o<;>exact h
abbrev P5(K:PySem.W.Frag)(ρ:List Addr)(H:Hp)(o:O)(a:Addr):Prop:=match o with
 |.pH l=>∃vs,ur K H a vs/\c8 K ρ H l vs
 |o=>∃u,H a=some u/\OH K ρ H o u
def P5.of{K ρ H}(hu:H a=some u)(h:OH K ρ H o u):P5 K ρ H o a:=by
 cases o<;>first|exact#[u,hu,h]|(cases u<;>exact h.elim)
def P5.inv{K ρ H}(m:o.mut=true)(h:P5 K ρ H o a):∃u,H a=some u/\OH K ρ H o u:=by
 cases o<;>first|exact h|cases m
def P5.lst{K ρ H}{l}{a}(h:P5 K ρ H (.lst l) a):∃vs,H a=some (.lst vs)/\c8 K ρ H l vs:=by
 let#[u,h1,h2]:=h;cases u<;>first|exact#[_,h1,h2]|exact h2.elim
def P5.cg{K ρ H}{l}{a}(h:P5 K ρ H (.cg l) a):∃vs,H a=some (.dK vs)/\i9 K ρ H l vs:=by
 let#[u,h1,h2]:=h;cases u<;>first|exact#[_,h1,h2]|exact h2.elim
def P5.set{K ρ H}{S}{n}{a}(h:P5 K ρ H (.set S n) a):H a=some (.set S n):=by
 let#[u,h1,h2]:=h;cases u<;>first|(let#[rfl,rfl]:=(show _/\_ from h2);exact h1)|exact h2.elim
def P5.ins{K ρ H}{c}{fs}{a}(h:P5 K ρ H (.ins c fs) a):∃C dx vs,H a=some (.ins C dx vs)/\v5 K c C/\je K C/\i9 K ρ H fs vs/\∀x∈fs,D9 K C x.1:=by
 let#[u,h1,h2]:=h;cases u<;>first|exact#[_,_,_,h1,h2]|exact h2.elim
structure Rl(K:PySem.W.Frag)(ρ:List Addr)(g:G)(H:Hp):Prop where
 len:ρ.length=g.length
 obj:∀(i:Nat) o a,g[i]?=some o->ρ[i]?=some a->P5 K ρ H o a
 nd:∀(i j:Nat) o o' a,g[i]?=some o->g[j]?=some o'->o.mut=true->o'.mut=true->ρ[i]?=some a->ρ[j]?=some a->i=j
section
variable{ρ:List Addr}
def Rl.lst(R:Rl K ρ g H){i:Nat}{l}{a}(h:g[i]?=some (.lst l))(ha:ρ[i]?=some a):∃vs,H a=some (.lst vs)/\c8 K ρ H l vs:=(R.obj _ _ _ h ha).lst
def Rl.cg(R:Rl K ρ g H){i:Nat}{l}{a}(h:g[i]?=some (.cg l))(ha:ρ[i]?=some a):∃vs,H a=some (.dK vs)/\i9 K ρ H l vs:=(R.obj _ _ _ h ha).cg
def Rl.set(R:Rl K ρ g H){i:Nat}{S:Int->Bool}{n:Nat}{a}(h:g[i]?=some (.set S n))(ha:ρ[i]?=some a):H a=some (.set S n):=(R.obj _ _ _ h ha).set
def Rl.ins(R:Rl K ρ g H){i:Nat}{c}{fs}{a}(h:g[i]?=some (.ins c fs))(ha:ρ[i]?=some a):∃C dx vs,H a=some (.ins C dx vs)/\v5 K c C/\je K C/\i9 K ρ H fs vs/\∀x∈fs,D9 K C x.1:=(R.obj _ _ _ h ha).ins
def Rl.items(R:Rl K ρ g H)(h:d7 g i=some l)(ha:ρ[i]?=some a):∃vs,fq K H a vs/\c8 K ρ H l vs:=by
 cases e:g[i]? with
 |none=>rw[d7,e] at h;cases h
 |some o =>
  rw[d7,e] at h;have q:=R.obj _ _ _ e ha;cases o with
  |lst m=>cases h;let#[vs,z,r]:=q.lst;exact#[vs,fq.of z,r]
  |pH m=>cases h;let#[vs,z,r]:=q;exact#[vs,z.sq,r]
  |_=>cases h
def A4{o}(hp:H p=none):Ext ρ H ρ (upd H p o):=#[#[[],by simp],λa xs h=>by rw[d0 (i7 h hp)];exact h]
def ur.upd{p a}{o}{vs}(h:ur K H a vs)(hp:∀ob u,H p≠some (.jJ ob u)):ur K (upd H p o) a vs:=by
 rcases h with⟨ob,z⟩|z
 ·refine .inl #[ob,?_];rw[d0 ?_]
  ·exact z
  ·intro e;subst e;exact hp _ _ z
 ·exact .inr z
def P5.upd{p a}{o}{u}{bT}(h:P5 K ρ H o a)(fM:o.mut=true->a≠p)(hp:∀ob u,H p≠some (.jJ ob u))(e:Ext ρ H bT (L2.upd H p u)):P5 K bT (L2.upd H p u) o a:=by
 cases hm:o.mut with
 |true =>
  let#[u',h1,h2]:=h.inv hm;exact .of (by rw[d0 (fM hm)];exact h1) (h2.ext e)
 |false =>
  cases o<;>first|cases hm|skip
  let#[vs,z,r]:=h;exact#[vs,z.upd hp,r.ext e]
def Rl.grow{o}(R:Rl K ρ g H)(hp:H p=none):Rl K ρ g (upd H p o):=by
 have e:Ext ρ H ρ (upd H p o):=A4 hp;refine#[R.len,λi ob a h1 h2=>?_,R.nd];have q:=R.obj _ _ _ h1 h2;refine q.upd (λhm=>?_) (λob u z=>by simp_all) e;let#[u,h1,_]:=q.inv hm;exact i7 h1 hp
def Rl.v9(R:Rl K ρ g H)(p:Addr):(ρ++[p])[g.length]?=some p:=by rw[<- R.len];simp
def B0{o}(hp:H p=none):Ext ρ H (ρ++[p]) (upd H p o):=#[#[[p],rfl],(A4 (ρ:=ρ) hp).tup]
def Rl.new(R:Rl K ρ g H)(hp:H p=none)(r:OH K ρ H o u):Rl K (ρ++[p]) (g++[o]) (upd H p u):=by
 have e:Ext ρ H (ρ++[p]) (upd H p u):=B0 hp;have old:∀{i:Nat} {ob:O} {a:Addr},g[i]?=some ob->(ρ++[p])[i]?=some a->ρ[i]?=some a:=λ{i ob a} h1 h2=>by
  rw[aK (by rw[R.len];exact(aw.mp h1).1)] at h2;exact h2
 have split:∀{i:Nat} {ob:O},(g++[o])[i]?=some ob->g[i]?=some ob\/(i=g.length/\ob=o):=λ{i ob} h=>by
  rcases fm i g.length with q|q|q
  ·rw[aK q] at h;exact .inl h
  ·subst q;simp at h;exact .inr #[rfl,h.symm]
  ·rw[bq (by simp;omega)] at h;cases h
 refine#[by simp[R.len],λi ob a h1 h2=>?_,λi j o1 o2 a h1 h2 m1 m2 h3 h4=>?_]
 ·rcases split h1 with q|⟨rfl,rfl⟩
  ·have z:=R.obj _ _ _ q (old q h2);refine z.upd (λhm=>?_) (λob u z=>by simp_all) e;let#[u,h1,_]:=z.inv hm;exact i7 h1 hp
  ·rw[R.v9] at h2;cases h2;exact .of k6 (r.ext e)
 ·have nq:∀{i:Nat} {o:O} {a:Addr},g[i]?=some o->o.mut=true->ρ[i]?=some a->a≠p:=λ{i o a} h1 hm h2=>by
   let#[u,z,_]:=(R.obj _ _ _ h1 h2).inv hm;exact i7 z hp
  rcases split h1 with q|⟨rfl,_⟩
  ·rcases split h2 with q'|⟨rfl,_⟩
   ·exact R.nd _ _ _ _ _ q q' m1 m2 (old q h3) (old q' h4)
   ·rw[R.v9] at h4;cases h4;exact absurd rfl (nq q m1 (old q h3))
  ·rcases split h2 with q'|⟨rfl,_⟩
   ·rw[R.v9] at h3;cases h3;exact absurd rfl (nq q' m2 (old q' h4))
   ·rfl
def Rl.sup{H'}(R:Rl K ρ g H)(e:∀b u,H b=some u->H' b=some u):Rl K ρ g H':=by
 have x:Ext ρ H ρ H':=#[#[[],by simp],λb xs h=>e _ _ h]
 refine#[R.len,λi o a h1 h2=>?_,R.nd];have q:=R.obj _ _ _ h1 h2;cases hm:o.mut with
 |true =>
  let#[u,z1,z2]:=q.inv hm;exact .of (e _ _ z1) (z2.ext x)
 |false =>
  cases o<;>first|cases hm|skip
  let#[vs,z,r]:=q;exact#[vs,z.imp (by rintro ⟨o,z⟩;exact #[o,e _ _ z]) id,r.ext x]
def Rl.alloc(R:Rl K ρ g H)(hp:H p=none)(r:c8 K ρ H l vs):Rl K (ρ++[p]) (g++[.lst l]) (upd H p (.lst vs)):=R.new hp r
def Rl.put{o'}(R:Rl K ρ g H)(h:g[i]?=some o)(hm:o.mut=true)(ha:ρ[i]?=some a)(r:OH K ρ H o' u) :
  Rl K ρ (g.set i o') (upd H a u)/\Ext ρ H ρ (upd H a u):=by
 let#[u0,z0,HB]:=(R.obj _ _ _ h ha).inv hm;have e:Ext ρ H ρ (upd H a u):=#[#[[],by simp],λb xs q=>by rw[d0];exact q;intro z;subst z;rw[z0] at q;cases q;exact HB.uz]
 refine#[#[by simp[R.len],λj ob b h1 h2=>?_,λj k o1 o2 b h1 h2 m1 m2 h3 h4=>?_],e]
 ·by_cases lj:i=j
  ·subst lj;rw[ha] at h2;cases h2;have hi:i<g.length:=(aw.mp h).1;rw[bg hi] at h1;cases h1;exact .of k6 (r.ext e)
  ·rw[aI lj] at h1;refine(R.obj _ _ _ h1 h2).upd (λlN ez=>?_) (λob u z=>by rw[z0] at z;cases z;exact HB.Xy) e;subst ez;exact lj (R.nd _ _ _ _ _ h h1 hm lN ha h2)
 ·have back:∀{j:Nat} {m:O},(g.set i o')[j]?=some m->m.mut=true->∃m',g[j]?=some m'/\m'.mut=true:=λ{j m} q lN=>by
   by_cases lj:i=j
   ·subst lj;exact#[o,h,hm]
   ·rw[aI lj] at q;exact#[m,q,lN]
  let#[_,q1,n1]:=back h1 m1;let#[_,q2,n2]:=back h2 m2;exact R.nd _ _ _ _ _ q1 q2 n1 n2 h3 h4
def Rl.write{l'}(R:Rl K ρ g H)(h:g[i]?=some (.lst l))(ha:ρ[i]?=some a)(r:c8 K ρ H l' vs) :
  Rl K ρ (g.set i (.lst l')) (upd H a (.lst vs))/\Ext ρ H ρ (upd H a (.lst vs)):=R.put h rfl ha r
end
structure u1(K:PySem.W.Frag)(ρ:List Addr)(H:Hp)(Z:S)(cq:St):Prop where
 len:Z.length=cq.length
 val:∀(i:Nat) d,Z[i]?=some (some d)->∃v,cq[i]?=some (some v)/\f7 K ρ H d v
section
variable{ρ bT:List Addr}{H':Hp}
def u1.ext{Z cq}(e:Ext ρ H bT H')(r:u1 K ρ H Z cq):u1 K bT H' Z cq:=#[r.len,λi d h=>let ⟨v,a,b⟩:=r.val i d h;#[v,a,b.ext e]]
def u1.set{Z cq d v}(r:u1 K ρ H Z cq)(i:Nat)(h:f7 K ρ H d v):u1 K ρ H (Z.set i (some d)) (cq.set i (some v)):=by
 refine#[by simp[r.len],λj e q=>?_];by_cases lj:i=j
 ·subst lj;have hi:i<Z.length:=by
   have:=(aw.mp q).1
   simp_all
  rw[bg hi] at q;cases q;exact#[v,by rw[bg (by rw[<- r.len];exact hi)],h]
 ·rw[aI lj] at q ⊢;exact r.val j e q
def u1.start{ds vs}{n}(r:c8 K ρ H ds vs):u1 K ρ H (ds.map some++List.replicate (n-ds.length) none) (vs.map some++List.replicate (n-vs.length) none):=by
 refine#[by simp[r.length],λi d h=>?_];by_cases hi:i<ds.length
 ·rw[aK (by simpa using hi),ah] at h;cases e:ds[i]? with
  |none=>rw[e] at h;cases h
  |some x =>
   rw[e] at h;cases h;let#[v,h1,h2]:=r.get e;refine#[v,?_,h2];rw[aK (by rw[ai,<- r.length];exact hi),ah,h1]
   rfl
 ·rw[cV (by simpa using hi),dD] at h;split at h<;>cases h
def u1.d6{Z cq}(r:u1 K ρ H Z cq)(d6:List Nat)(n:Nat):u1 K ρ H (Q1 Z d6 n) (C9 cq d6 n):=by
 refine#[by simp[Q1,C9],λi d h=>?_];unfold Q1 at h;unfold C9;by_cases hi:i<d6.length
 ·rw[aK (by simpa using hi),ah,au hi] at h;rw[aK (by simpa using hi),ah,au hi];simp only[Option.map_some] at h ⊢;cases e:Z[d6[i]]? with
  |none=>simp_all
  |some x =>
   rw[e] at h;have hx:x=some d:=aG h;subst hx;let#[v,h1,h2]:=r.val _ _ e;exact#[v,by rw[h1];rfl,h2]
 ·rw[cV (by simpa using hi),dD] at h;split at h<;>cases h
end
end M
namespace M
open PySem L2 PySem.Spec PyProof.Rows
variable{g:G}{l:List D}{vs:List V}{b:Bool}{d:D}{X:Cx}{ρ:List Addr}{H:Hp}{Z:L2.St}{s:Shared}{v x:V}
abbrev LQ(K:PySem.W.Frag)(ρ:List Addr)(H:Hp)(Q:VK):KD:=λd g'=>∀bT H' v,Ext ρ H bT H'->Rl K bT g' H'->f7 K bT H' d v->Q v H'
def LQ.ext{K ρ H cc H1 Q d g}(e:Ext ρ H cc H1)(h:LQ K ρ H Q d g):LQ K cc H1 Q d g:=λbT H' v e' R r=>h bT H' v (e.trans e') R r
def LQ.now{K ρ H Q d g v}(h:LQ K ρ H Q d g)(R:Rl K ρ g H)(r:f7 K ρ H d v):Q v H:=h ρ H v (.refl _ _) R r
def LQ.new{K ρ H Q}{p}(h:LQ K ρ H Q (.ref g.length) (g++[.lst l]))(R:Rl K ρ g H)(hp:H p=none)(r:c8 K ρ H l vs):Q (.ref p) (upd H p (.lst vs)) :=
 h (ρ++[p]) _ _ (B0 hp) (R.alloc hp r) (.ref (R.v9 p))
def LQ.tup{K ρ H Q}{g}{l}{vs}{p}(h:LQ K ρ H Q (.tup l) g)(R:Rl K ρ g H)(hp:H p=none)(r:c8 K ρ H l vs):Q (.ref p) (upd H p (.tup vs)) :=
 h ρ _ _ (A4 hp) (R.grow hp) (.tup (.inl k6) (r.ext (A4 hp)))
abbrev r2(K:PySem.W.Frag)(p:Pr):R2:=λx y H Q=>∃d e g ρ,Rl K ρ g H/\f7 K ρ H d x/\f7 K ρ H e y/\cL p [d,e] g (LQ K ρ H Q)
abbrev r1(K:PySem.W.Frag)(p:Pr):V->Hp->VK->Prop:=λx H Q=>∃d g ρ,Rl K ρ g H/\f7 K ρ H d x/\cL p [d] g (LQ K ρ H Q)
abbrev rN(K:PySem.W.Frag)(p:Pr):List V->Hp->VK->Prop:=λxs H Q=>∃ds g ρ,Rl K ρ g H/\c8 K ρ H ds xs/\cL p ds g (LQ K ρ H Q)
def E4{n}(h:n<=100000):n<=sizeLine:=aD h ∅
def Gk{n}(h:n<100000):n<sizeLine:=ay h ∅
def f7.m9{K ρ H i v}(h:f7 K ρ H (.int i) v):v=.int i:=by cases h;rfl
def f7.FO{K ρ H i v}(h:f7 K ρ H (.str i) v):v=.str i:=by cases h;rfl
def f7.T6{K ρ H i v}(h:f7 K ρ H (.bl i) v):v=.bl i:=by cases h;rfl
def f7.zm{K ρ H v}(h:f7 K ρ H .br v):v=.br:=by cases h;rfl
def f7.Ys{K ρ H n v}(h:f7 K ρ H (.ty n) v):v=.ty n:=by cases h;rfl
def f7.j6{K ρ H i v}(h:f7 K ρ H (.ref i) v):∃a,v=.ref a/\ρ[i]?=some a:=by cases h;exact#[_,rfl,by assumption]
def f7.K9{K ρ H l v}(h:f7 K ρ H (.tup l) v):∃a vs,v=.ref a/\TupAt K H a vs/\c8 K ρ H l vs:=by cases h;exact#[_,_,rfl,by assumption,by assumption]
def c8.one{K ρ H d vs}(h:c8 K ρ H [d] vs):∃v,vs=[v]/\f7 K ρ H d v:=by
 cases h with
 |cons r rr=>cases rr;exact#[_,rfl,r]
def c8.two{K ρ H d e vs}(h:c8 K ρ H [d,e] vs):∃v w,vs=[v,w]/\f7 K ρ H d v/\f7 K ρ H e w:=by
 cases h with
 |cons r rr=>let#[w,rfl,q]:=rr.one;exact#[_,_,rfl,r,q]
def A5{a b c}(h:[a,b]=[c,d]):a=c/\b=d:=by cases h;exact#[rfl,rfl]
section
def Zn(op:Operator):fP X (binaryOp op) (r2 X.K (.bin op)):=by
 intro pi s Z H x y v u Q I rx ry h;let#[d,e,g,ρ,R,rd,re,d',g',h,q]:=h;rcases h with⟨i,j,r,ex,ha,rfl,rfl⟩|⟨rfl,h⟩|⟨rfl,h⟩
 ·let#[rfl,rfl]:=A5 ex;obtain rfl:=rd.m9;obtain rfl:=re.m9;have fin:=q.now R (.int r);cases op<;>first|exact(show False from ha).elim|skip
  ·cases ha;exact Zl pi s Z H _ _ v u Q I rx ry #[i,j,rfl,rfl,fin]
  ·cases ha;exact Zv pi s Z H _ _ v u Q I rx ry #[i,j,rfl,rfl,fin]
  ·let#[hc,rfl]:=ha;exact Zr pi s Z H _ _ v u Q I rx ry #[i,j,rfl,rfl,hc,fin]
  ·let#[hc,rfl]:=ha;exact Zq pi s Z H _ _ v u Q I rx ry #[i,j,rfl,rfl,hc,fin]
  ·let#[hc,rfl]:=ha;exact Zs pi s Z H _ _ v u Q I rx ry #[i,j,rfl,rfl,hc,fin]
  ·let#[hc,rfl]:=ha;exact Zu pi s Z H _ _ v u Q I rx ry #[i,j,rfl,rfl,hc,fin]
  ·cases ha;exact XD pi s Z H _ _ v u Q I rx ry #[i,j,rfl,rfl,fin]
  ·cases ha;exact Zm pi s Z H _ _ v u Q I rx ry #[i,j,rfl,rfl,fin]
  ·let#[hc,rfl]:=ha;exact bB3 pi s Z H _ _ v u Q I rx ry #[i,j,rfl,rfl,hc,fin]
 ·rcases h with⟨l,m,ex,hz,rfl,rfl⟩|⟨a,b,l,m,ex,ha,hb,hz,rfl,rfl⟩|z
  ·let#[rfl,rfl]:=A5 ex;let#[a,vs,rfl,ta,rs]:=rd.K9;let#[b,ws,rfl,tb,rt]:=re.K9;refine Vn pi s Z H _ _ v u Q I rx ry #[a,b,vs,ws,rfl,rfl,ta.sq,tb.sq,?_,λz=>?_,λz=>?_,λp hp=>q.tup R hp (rs.append rt)]
   ·rw[<- rs.length,<- rt.length];exact E4 hz
   ·subst z;cases rs;exact q.now R (.tup tb rt)
   ·subst z;cases rt;rw[fQ] at q;exact q.now R (.tup ta rs)
  ·let#[rfl,rfl]:=A5 ex;let#[a',rfl,ra]:=rd.j6;let#[b',rfl,rb]:=re.j6;let#[vs,z1,rs]:=R.lst ha ra;let#[ws,z2,rt]:=R.lst hb rb;exact Zo pi s Z H _ _ v u Q I rx ry #[_,_,vs,ws,rfl,rfl,z1,z2,by rw[<- rs.length,<- rt.length];exact E4 hz,λp hp=>q.new R hp (rs.append rt)]
  ·exact z.elim
 ·rcases h with⟨a,l,n,ex,ha,h1,h2,hz,rfl,rfl⟩|⟨l,n,ex,fM,h1,h2,hz,rfl,rfl⟩
  rotate_left
  ·let#[rfl,rfl]:=A5 ex;let#[a',vs,rfl,ta,rs]:=rd.K9;obtain rfl:=re.m9;refine bB1 pi s Z H _ _ v u Q I rx ry #[_,_,vs,rfl,rfl,ta.sq,λz=>?_,h1,h2,by rw[<- rs.length];exact E4 hz,λz=>?_,λp hp=>q.tup R hp (rs.rep _)]
   ·subst z;cases rs;exact fM rfl
   ·subst z;have:(List.replicate (Int.toNat 1) l).flatten=l:=by simp
    rw[this] at q;exact q.now R (.tup ta rs)
  let#[rfl,rfl]:=A5 ex;let#[a',rfl,ra]:=rd.j6;obtain rfl:=re.m9;let#[vs,z1,rs]:=R.lst ha ra;exact Zt pi s Z H _ _ v u Q I rx ry #[_,_,vs,rfl,rfl,z1,by omega,by omega,by rw[<- rs.length];exact E4 hz,λp hp=>q.new R hp (rs.rep _)]
def XE(op:UnaryOp):AB X (unaryOp op) (r1 X.K (.un op)):=by
 intro pi s Z H x v Q I rx h;let#[d,g,ρ,R,rd,d',g',#[rfl,i,ex,rfl,rfl],q]:=h;cases ex;obtain rfl:=rd.m9;exact bG0 pi s Z H _ v Q I rx #[_,rfl,q.now R (.int _)]
section
variable{pi:List (Addr×Obj)}
def LJ(I:Inv X pi Z H s)(R:Rl X.K ρ g H)(n:Nat)(ih:∀{d:D} {v:V} {u:Value} {p:PyData},rd g n d=some p->f7 X.K ρ H d v->RelV v u->∃as,Reads s.heap u p as/\p.depth<=n):∀{vs:List V} {us:List Value} {ps:List PyData},l.mapM (rd g n)=some ps->c8 X.K ρ H l vs->Vals vs us->∃as,ReadsAll s.heap us ps as/\PyData.depthAll ps<=n:=by
 induction l with
 |nil =>
  intro vs us ps h rs rv;cases rs;cases rv;simp at h;subst h;exact#[_,.nil,bO _]
 |cons d l il =>
  intro vs us ps h rs rv;cases rs with
  |cons iF rs =>
   cases rv with
   |cons ru rv =>
    rw[List.mapM_cons] at h;cases e:rd g n d with
    |none=>simp_all
    |some p =>
     rw[e] at h;cases e2:l.mapM (rd g n) with
     |none=>rw[e2] at h;cases h
     |some qs =>
      rw[e2] at h;cases h;let#[as,q1,d1]:=ih e iF ru;let#[bs,q2,d2]:=il e2 rs rv;refine#[_,.cons q1 q2,?_];simp only[PyData.depthAll];omega
def xT(I:Inv X pi Z H s)(R:Rl X.K ρ g H)(n:Nat):∀{d:D} {v:V} {u:Value} {p:PyData},rd g n d=some p->f7 X.K ρ H d v->RelV v u->∃as,Reads s.heap u p as/\p.depth<=n:=by
 induction n with
 |zero =>
  intro d v u p h r ru;cases r with
  |br=>simp only[rd] at h;cases h;cases ru;exact#[_,.none,Nat.zero_le _]
  |bl b=>simp only[rd] at h;cases h;cases ru;exact#[_,.bool b,Nat.zero_le _]
  |int i=>simp only[rd] at h;cases h;let#[t,rfl]:=ru;exact#[_,.int i t,Nat.zero_le _]
  |str x=>simp only[rd] at h;cases h;let#[t,rfl]:=ru;exact#[_,.str x t,Nat.zero_le _]
  |_=>simp only[rd] at h;cases h
 |succ n ih =>
  intro d v u p h r ru;cases r with
  |br=>simp only[rd] at h;cases h;cases ru;exact#[_,.none,Nat.zero_le _]
  |bl b=>simp only[rd] at h;cases h;cases ru;exact#[_,.bool b,Nat.zero_le _]
  |int i=>simp only[rd] at h;cases h;let#[t,rfl]:=ru;exact#[_,.int i t,Nat.zero_le _]
  |str x=>simp only[rd] at h;cases h;let#[t,rfl]:=ru;exact#[_,.str x t,Nat.zero_le _]
  |ty x=>simp only[rd] at h;cases h
  |ref ha =>
   rename_i i a;simp only[rd] at h;cases e:d7 g i with
   |none=>simp_all
   |some l =>
    rw[e] at h;dsimp only at h;cases e2:l.mapM (rd g n) with
    |none=>simp_all
    |some ps =>
     rw[e2] at h;cases h;cases ru;let#[vs,hq,rs]:=R.items e ha;let#[aU,rv,p,hz]:=I.list hq;let#[as,q,hd]:=LJ I R n ih e2 rs rv;let#[o,ho,hc,k,so]:=p.isList;refine#[_,.list ho hc so (by simpa using q),?_];simp only[PyData.depth];omega
  |tup ht rs =>
   rename_i l a vs;simp only[rd] at h;cases e2:l.mapM (rd g n) with
   |none=>simp_all
   |some ps =>
    rw[e2] at h;cases h;cases ru;let#[aU,rv,pt,hz]:=I.tuple ht.sq;let#[as,q,hd]:=LJ I R n ih e2 rs rv;let#[o,ho,hc,k,so]:=id pt;refine#[_,.tuple ho hc so (by simpa using q),?_];simp only[PyData.depth];omega
end
end
def U7{K ρ H}{c}(h:nA d=some c)(r:f7 K ρ H d v):v=kV c:=by
 cases r<;>first|(cases h;rfl)|cases h
def sX.some{K ρ H}{o}{d}(h:sX K ρ H (some d) o):∃v,o=some v/\f7 K ρ H d v:=by
 cases o with
 |none=>exact h.elim
 |some v=>exact#[v,rfl,h]
def sX.isSome{K ρ H}{o}{d}(h:sX K ρ H d o):d.isSome=o.isSome:=by
 cases o<;>cases d<;>first|rfl|exact h.elim
def Jo{pi}{e}{y}{v u}{Q}(hu:X.A.units+100<cLine)(I:Inv X pi Z H s)(rx:RelV x v)(ry:RelV y u)(R:Rl X.K ρ g H)(iF:f7 X.K ρ H d x)(re:f7 X.K ρ H e y)(h:wR g d e b)(neg:Bool)(q:Q (.bl (xor neg b)) H):wpAny (model X.prog X.w) X.A (compareOp (if neg then .NotEq else .Eq) v u) (EP X pi Z Q) X.xe s:=by
 rcases h with⟨i,j,rfl,rfl,rfl⟩|⟨i,j,rfl,rfl,rfl⟩|⟨i,j,rfl,rfl,rfl⟩|⟨p,p',h1,h2,c1,c2,rfl⟩
 ·obtain rfl:=iF.m9;obtain rfl:=re.m9;cases neg
  ·exact GI pi s Z H _ _ v u Q I rx ry #[rfl,by simp_all]
  ·exact GJ pi s Z H _ _ v u Q I rx ry #[rfl,by simp_all]
 ·obtain rfl:=iF.T6;obtain rfl:=re.T6;cases neg
  ·exact GI pi s Z H _ _ v u Q I rx ry #[rfl,by rw[zh];simpa using q]
  ·exact GJ pi s Z H _ _ v u Q I rx ry #[rfl,by rw[zh];simpa using q]
 ·obtain rfl:=iF.FO;obtain rfl:=re.FO;cases neg
  ·exact GI pi s Z H _ _ v u Q I rx ry #[rfl,by simp_all]
  ·exact GJ pi s Z H _ _ v u Q I rx ry #[rfl,by simp_all]
 ·let#[as,q1,d1]:=xT I R 6 h1 iF rx;let#[bs,q2,d2]:=xT I R 6 h2 re ry;have hr:X.A.units+min p.depth p'.depth<cLine:=by omega
  cases neg
  ·exact SeqAt.compareEq_reads q1 q2 c1 c2 hr #[.bl _,H,I,rfl,by simpa using q]
  ·exact SeqAt.compareNe_reads q1 q2 c1 c2 hr #[.bl _,H,I,rfl,by simpa using q]
def in_of{pi}{e}{y}{v u}{Q}(hu:X.A.units+100<cLine)(I:Inv X pi Z H s)(rx:RelV x v)(ry:RelV y u)(R:Rl X.K ρ g H)(iF:f7 X.K ρ H d x)(re:f7 X.K ρ H e y)(h:inR g d e b)(neg:Bool)(q:Q (.bl (xor neg b)) H):wpAny (model X.prog X.w) X.A (compareOp (if neg then .NotIn else .In) v u) (EP X pi Z Q) X.xe s:=by
 rcases h with⟨a,kvs,c,rfl,ha,hc,rfl⟩|⟨l,ps,p,h0,h1,h2,c1,c2,rfl⟩
 ·let#[a',rfl,ra]:=re.j6;let#[vs,z,rs]:=R.cg ha ra;have:=U7 hc iF;subst this;cases ry;rw[(rs.val c).isSome] at q;cases neg
  ·exact b98 () I (ot.k z) rx λs' I'=>#[.bl _,H,I',rfl,by simpa using q]
  ·exact bE0 () I (ot.k z) rx λs' I'=>#[.bl _,H,I',rfl,by simpa using q]
 ·let#[as,q1,d1]:=xT I R 6 h2 iF rx;cases e with
  |tup m =>
   cases h0;have h3:rd g 7 (.tup l)=some (.tuple ps):=by simp only[rd];rw[show l.mapM (rd g 6)=some ps from h1];rfl
   let#[bs,q2,d2]:=xT I R 7 h3 re ry;have hr:X.A.units+1+min (PyData.depthAll ps) p.depth<cLine:=by omega
   cases neg
   ·exact SeqAt.in_tuple_reads q2 q1 c1 c2 hr #[.bl _,H,I,rfl,by simpa using q]
   ·exact SeqAt.notIn_tuple_reads q2 q1 c1 c2 hr #[.bl _,H,I,rfl,by simpa using q]
  |ref a =>
   have h3:rd g 7 (.ref a)=some (.list ps):=by
    simp only[rd];rw[show d7 g a=some l from h0];dsimp only;rw[show l.mapM (rd g 6)=some ps from h1]
    rfl
   let#[bs,q2,d2]:=xT I R 7 h3 re ry;have hr:X.A.units+1+min (PyData.depthAll ps) p.depth<cLine:=by omega
   cases neg
   ·exact SeqAt.in_list_reads q2 q1 c1 c2 hr #[.bl _,H,I,rfl,by simpa using q]
   ·exact SeqAt.notIn_list_reads q2 q1 c1 c2 hr #[.bl _,H,I,rfl,by simpa using q]
  |_=>cases h0
def uF(hu:X.A.units+100<cLine)(op:CmpOp):fP X (compareOp op) (r2 X.K (.cmp op)):=by
 intro pi s Z H x y v u Q I rx ry h;let#[d,e,g,ρ,R,iF,re,d',g',#[x',y',b,ex,h,rfl,rfl],q]:=h;let#[rfl,rfl]:=A5 ex;have fin:=q.now R (.bl b);have pb:∀{P:Int->Int->Bool},(∃i j,d=.int i/\e=.int j/\b=P i j)->∃i j,x=.int i/\y=.int j/\b=P i j:=λhh=>by
  let#[i,j,z1,z2,z3]:=hh;exact#[i,j,(z1▸iF).m9,(z2▸re).m9,z3]
 cases op
 ·exact Jo hu I rx ry R iF re h false (by simpa using fin)
 ·exact Jo hu I rx ry R iF re h true (by simpa using fin)
 ·let#[i,j,e1,e2,e3]:=pb (P:=λi j=>decide (i<j)) h;exact XC pi s Z H _ _ v u Q I rx ry #[i,j,e1,e2,by subst e3;exact fin]
 ·let#[i,j,e1,e2,e3]:=pb (P:=λi j=>decide (i<=j)) h;exact XB pi s Z H _ _ v u Q I rx ry #[i,j,e1,e2,by subst e3;exact fin]
 ·let#[i,j,e1,e2,e3]:=pb (P:=λi j=>decide (j<i)) h;exact XA pi s Z H _ _ v u Q I rx ry #[i,j,e1,e2,by subst e3;exact fin]
 ·let#[i,j,e1,e2,e3]:=pb (P:=λi j=>decide (j<=i)) h;exact Xz pi s Z H _ _ v u Q I rx ry #[i,j,e1,e2,by subst e3;exact fin]
 ·let#[rfl,rfl]:=(show _/\_ from h)
  obtain rfl:=re.zm;refine Zp pi s Z H _ _ v u Q I rx ry #[rfl,?_];have e:Z5 d=decide (x=V.br):=by cases iF<;>simp[Z5]
  rw[<- e];exact fin
 ·let#[rfl,rfl]:=(show _/\_ from h)
  obtain rfl:=re.zm;refine bB2 pi s Z H _ _ v u Q I rx ry #[rfl,?_];have e:Z5 d=decide (x=V.br):=by cases iF<;>simp[Z5]
  rw[<- e];exact fin
 ·rcases h with h|⟨a,S,n,i,rfl,ha,rfl,rfl⟩
  ·exact in_of hu I rx ry R iF re h false (by simpa using fin)
  ·let#[a',rfl,ra]:=re.j6;obtain rfl:=iF.m9;exact Xj pi s Z H _ _ v u Q I rx ry #[i,a',S,n,rfl,rfl,R.set ha ra,fin]
 ·rcases h with h|⟨a,S,n,i,rfl,ha,rfl,hb⟩
  ·exact in_of hu I rx ry R iF re h true (by simpa using fin)
  ·let#[a',rfl,ra]:=re.j6;obtain rfl:=iF.m9;exact aM7 pi s Z H _ _ v u Q I rx ry #[i,a',S,n,rfl,rfl,R.set ha ra,by rw[<- hb,Bool.not_not];exact fin]
def empty_eq{K ρ H}(r:c8 K ρ H l vs):l.isEmpty=vs.isEmpty:=by cases r<;>rfl
def bG3{K}(R:Rl K ρ g H)(r:f7 K ρ H d x)(h:KH g d b):DS K x H b:=by
 rcases h with⟨rfl,rfl⟩|rfl|⟨i,rfl,rfl⟩|⟨l,rfl,rfl⟩|⟨a,l,rfl,hl,rfl⟩
 ·obtain rfl:=r.zm;rfl
 ·obtain rfl:=r.T6;rfl
 ·obtain rfl:=r.m9;rfl
 ·let#[a,vs,rfl,ht,rs]:=r.K9;exact .inr (.inl #[_,ht.sq,by rw[empty_eq rs]])
 ·let#[a',rfl,ha]:=r.j6;let#[vs,hq,rs]:=R.items hl ha;exact .inl #[_,hq,by rw[empty_eq rs]]
def bE8{K ρ H}{i}(r:c8 K ρ H l vs)(h:jc l i=some d):∃v,jc vs i=some v/\f7 K ρ H d v:=by
 unfold jc at h ⊢;rw[<- r.length];cases e:nO l.length i with
 |none=>simp_all
 |some j =>
  rw[e] at h;exact r.get h
def xF{K ρ H}{x}(R:Rl K ρ g H)(r:f7 K ρ H x v)(h:L1 g x=some l):∃a vs,v=.ref a/\c8 K ρ H l vs/\((∃i,x=.ref i/\ρ[i]?=some a)/\fq K H a vs\/x=.tup l/\TupAt K H a vs):=by
 cases r with
 |tup ht rs=>cases h;exact#[_,_,rfl,rs,.inr #[rfl,ht]]
 |ref ha=>let#[vs,hq,rs]:=R.items h ha;exact#[_,_,rfl,rs,.inl #[#[_,rfl,ha],hq]]
 |_=>cases h
def b01(hu:X.A.units+100<cLine):uY X (r2 X.K .ix):=by
 intro value slice pi s Z H x y v u Q I rx ry h hs;let#[d,e,g,ρ,R,iF,re,d',g',#[rfl,h],q]:=h;rcases h with⟨x',l,i,ex,hl,ha⟩|⟨a,kvs,y',c,ex,ha,hc,hv⟩|z
 ·let#[rfl,rfl]:=A5 ex;obtain rfl:=re.m9;let#[a,vs,rfl,rs,h]:=xF R iF hl;let#[w,hw,fE]:=bE8 rs ha;rcases h with⟨_,hq⟩|⟨_,ht⟩
  ·exact bC8 value slice pi s Z H _ _ v u Q I rx ry #[_,_,i,w,rfl,rfl,hq,hw,q.now R fE] hs
  ·exact YW value slice pi s Z H _ _ v u Q I rx ry #[_,_,i,w,rfl,rfl,ht.sq,hw,q.now R fE] hs
 ·let#[rfl,rfl]:=A5 ex;let#[a',rfl,ra]:=iF.j6;let#[vs,z,rs]:=R.cg ha ra;have:=U7 hc re;subst this;have q2:=rs.val c;rw[hv] at q2;let#[w,hw,fE]:=q2.some;exact bC9 () value slice pi s Z H _ _ v u Q I rx ry #[_,w,rfl,by have:=ot.k (k:=c) z;rw[hw] at this;exact this,q.now R fE] hs
 ·exact z.elim
abbrev PV(K:PySem.W.Frag):V->Option Int->Option Int->Hp->VK->Prop:=λx lo hi H Q=>∃d g ρ d' g',Rl K ρ g H/\f7 K ρ H d x/\vp d lo hi g d' g'/\LQ K ρ H Q d' g'
def JE:ya X (PV X.K):=by
 intro pi s Z H x v vl vu lo hi sl Q I rx hs pl pu h;let#[d,g,ρ,d',g',R,iF,h,q]:=h;rcases h with⟨l,rfl,rfl,rfl⟩|⟨a,l,rfl,hl,rfl,rfl⟩
 ·let#[a,vs,rfl,ht,rs]:=iF.K9;refine Ua pi s Z H _ v vl vu lo hi sl Q I rx hs pl pu #[_,_,rfl,ht.sq,λz=>?_,λp hp=>q.tup R hp (rs.cut lo hi)];refine q.now R (.tup ht ?_);have:=rs.cut lo hi
  simp_all
 ·let#[a',rfl,ha]:=iF.j6;let#[vs,hq,rs]:=R.items hl ha;exact TZ pi s Z H _ v vl vu lo hi sl Q I rx hs pl pu #[_,_,rfl,hq,λp hp=>q.new R hp (rs.cut lo hi)]
abbrev b65(K:PySem.W.Frag):V->V->V->Hp->(Hp->Prop)->Prop:=λo i v H Q=>∃DF di dv g ρ,Rl K ρ g H/\f7 K ρ H DF o/\f7 K ρ H di i/\f7 K ρ H dv v/\oB DF di dv g (λg'=>∀bT H',Ext ρ H bT H'->Rl K bT g' H'->Q H')
def bJ1(hu:X.A.units+100<cLine):DP X (b65 X.K):=by
 intro pi s Z H o i v ov iv u Q I ro ri rv h;let#[DF,di,dv,g,ρ,R,r1,r2,r3,g',h,q]:=h;rcases h with⟨a,i',l,j,rfl,rfl,hl,hj,rfl⟩|⟨a,kvs,c,rfl,ha,hc,hz,rfl⟩
 ·let#[a',rfl,ha]:=r1.j6;obtain rfl:=r2.m9;let#[vs,z,rs]:=R.lst hl ha;let#[R',e']:=R.write hl ha (rs.set r3 j);exact set_list pi s Z H _ _ _ ov iv u Q I ro ri rv #[_,vs,_,j,rfl,rfl,z,by rw[<- rs.length];exact hj,q ρ _ e' R']
 ·let#[a',rfl,ra]:=r1.j6;let#[vs,z,rs]:=R.cg ha ra;have:=U7 hc r2;subst this;let#[R',e']:=R.put (o':=.cg (putD kvs c dv)) (u:=.dK (putK vs c v)) ha rfl ra (rs.put r3);cases ro;exact WG () I (Av.k z (by rw[<- rs.length];exact Gk hz)) ri rv λs' I'=>#[_,I',q ρ _ e' R']
def Zc:p9 X (.builtin "len") (rN X.K .len):=by
 intro pi s Z H xs us Q I r h;let#[ds,g,ρ,R,rs,d',g',#[rfl,h],q]:=h;rcases h with⟨x,l,rfl,hl,rfl⟩|⟨a,kvs,rfl,ha,rfl⟩|z
 ·let#[v,rfl,rv]:=rs.one;let#[a,vs,rfl,rl,h]:=xF R rv hl;refine aQ5 pi s Z H _ us Q I r #[_,_,rfl,?_,by rw[<- rl.length];exact q.now R (.int _)];exact h.imp (λz=>z.2) (λz=>z.2.sq)
 ·let#[v,rfl,rv]:=rs.one;let#[a',rfl,ra]:=rv.j6;let#[vs,z,rk]:=R.cg ha ra;exact WA pi s Z H _ us Q I r #[_,_,rfl,z,by rw[<- rk.length];exact q.now R (.int _)]
 ·exact z.elim
def Em{K ρ H}:∀(ks:List Key),c8 K ρ H (ks.map kD) (ks.map kV)
 |[]=>.nil
 |.inl _::r=>.cons (.int _) (Em r)
 |.inr _::r=>.cons (.str _) (Em r)
def i9.keys{α:Type}{K ρ H}{ds:List (α×D)}{vs:List (α×V)}(h:i9 K ρ H ds vs):ds.map (·.1)=vs.map (·.1):=by
 induction h with
 |nil=>rfl
 |cons _ _ ih=>simp_all
def bC2(hc:X.calm=true):p9 X (.type "list") (rN X.K .list):=by
 intro pi s Z H xs us Q I r h;obtain⟨ds,g,ρ,R,rs,d',g',⟨x,l,rfl,hl,rfl,rfl⟩|⟨a,kvs,rfl,ha,hn,rfl,rfl⟩,q⟩:=h
 rotate_left
 ·let#[v,rfl,rv]:=rs.one;let#[a',rfl,ra]:=rv.j6;let#[vs,z,rk]:=R.cg ha ra;exact aC3 hc pi s Z H _ us Q I r #[_,vs,rfl,z,by rw[<- rk.length];exact hn,λp hp=>q (ρ++[p]) _ _ (B0 hp) (R.new hp (o:=.lst ((kvs.map (·.1)).map kD)) (u:=.lst ((vs.map (·.1)).map kV)) (by rw[rk.keys];exact Em _)) (.ref (R.v9 p))]
 let#[v,rfl,rv]:=rs.one;let#[a,vs,rfl,rl,h]:=xF R rv hl;exact aQ4 pi s Z H _ us Q I r #[_,_,rfl,h.imp (λz=>z.2) (λz=>z.2.sq),λp hp=>q.new R hp rl]
def Wk:p9 X (.type "tuple") (rN X.K .tuple):=by
 intro pi s Z H xs us Q I r h;let#[ds,g,ρ,R,rs,d',g',#[x,l,rfl,hl,rfl,rfl],q]:=h;let#[v,rfl,rv]:=rs.one;let#[a,vs,rfl,rl,h]:=xF R rv hl;refine aH1 pi s Z H _ us Q I r #[a,vs,rfl,?_];exact h.imp (λz=>#[z.2,λp hp=>q.tup R hp rl]) (λz=>#[z.2.sq,q.now R (.tup z.2 rl)])
def bD0:p9 X (.builtin "isinstance") (rN X.K .isin):=by
 intro pi s Z H xs us Q I r h;let#[ds,g,ρ,R,rs,d',g',#[x,c,b,rfl,hc,hb,rfl,rfl],q]:=h;let#[v,w,rfl,r1,r2]:=rs.two;obtain rfl:=r2.Ys;have fin:=q.now R (.bl b);have go:∀(t:Value) (v:V),gX X.K H v t->PySem.W.kitOne X.K t (.type c)=some b->Vals [v,V.ty c] us->wpAny (model X.prog X.w) X.A (call (.builtin "isinstance") us) (EP X pi Z Q) X.xe s :=
  λt v ht hk r=>aT2 pi s Z H _ us Q I r #[v,t,c,b,rfl,ht,hk,fin]
 simp only[List.mem_cons,List.mem_nil_iff,or_false] at hc;cases r1 with
 |br=>refine go _ _ .br ?_ r;cases hb;rcases hc with rfl|rfl|rfl|rfl|rfl<;>rfl
 |bl y=>refine go _ _ (.bl y) ?_ r;cases hb;rcases hc with rfl|rfl|rfl|rfl|rfl<;>rfl
 |int y=>refine go _ _ (.int y) ?_ r;cases hb;rcases hc with rfl|rfl|rfl|rfl|rfl<;>rfl
 |str y=>refine go _ _ (.str y) ?_ r;cases hb;rcases hc with rfl|rfl|rfl|rfl|rfl<;>rfl
 |ty _=>cases hb
 |tup ht rs =>
  cases hb;rcases ht with ht|ht
  ·refine go _ _ (.tup ht) ?_ r;rcases hc with rfl|rfl|rfl|rfl|rfl<;>rfl
  ·let#[o,aU,n,lk,jq,_]:=ht;let#[u,w',rfl,ru,fE]:=vals2 r;cases (show w'=Value.type c from fE);cases ru;have hk:PySem.W.kitOne X.K (.type "tuple") (.type c)=some (c=="tuple"):=by rcases hc with rfl|rfl|rfl|rfl|rfl<;>rfl
   exact cb Pc I.gA #[o,I.gA _ _ lk,jq] hk (λz=>nomatch z) λtk=>#[.bl _,H,I.tok tk,rfl,fin]
 |@ref i a ha =>
  have wx:∃m,g'[i]?=some (.lst m)/\b=(c=="list"):=by
   simp only[sR] at hb;split at hb
   ·exact#[_,by assumption,(aG hb).symm]
   ·cases hb
  let#[m,e,rfl]:=wx;let#[vs,z,_]:=R.lst e ha;refine go _ _ (.lst z) ?_ r;rcases hc with rfl|rfl|rfl|rfl|rfl<;>rfl
def a48:∀{l:List D} {b:Bool},qQ l=some b->∃bs:List Bool,l=bs.map D.bl/\b=bs.all id:=by
 intro l
 induction l with
 |nil=>intro b h;cases h;exact#[[],rfl,rfl]
 |cons d r ih =>
  intro b h;cases d<;>first|(cases h;done)|skip
  rename_i c;simp only[qQ] at h;cases e:qQ r with
  |none=>simp_all
  |some b' =>
   rw[e] at h;cases h;let#[bs,rfl,rfl]:=ih e;exact#[c::bs,rfl,by simp]
def c8.Vg{K ρ H}:∀{bs:List Bool} {vs:List V},c8 K ρ H (bs.map D.bl) vs->vs=bs.map V.bl:=by
 intro bs
 induction bs with
 |nil=>intro vs h;cases h;rfl
 |cons b r ih =>
  intro vs h;cases h with
  |cons h rr=>rw[ih rr,h.T6];rfl
def YA(hc:X.calm=true):p9 X (.builtin "all") (rN X.K .all):=by
 intro pi s Z H xs us Q I r h;let#[ds,g,ρ,R,rs,d',g',#[a,l,b,rfl,hl,hb,rfl,rfl],q]:=h;let#[v,rfl,rv]:=rs.one;let#[a',rfl,ra]:=rv.j6;let#[vs,hq,rs]:=R.items hl ra;rcases hb with hb|⟨ns,rfl,rfl⟩
 rotate_left
 ·have:=rs.ints;subst this;exact Wz hc pi s Z H _ us Q I r #[_,ns,rfl,hq,q.now R (.bl _)]
 let#[bs,rfl,rfl]:=a48 hb;have:=rs.Vg;subst this;exact Wx hc pi s Z H _ us Q I r #[_,bs,rfl,hq,q.now R (.bl _)]
def El{K ρ H}:∀(ns:List Int),c8 K ρ H (ns.map D.int) (ns.map V.int)
 |[]=>.nil
 |_::r=>.cons (.int _) (El r)
def Wa(hc:X.calm=true):p9 X (.builtin "sorted") (rN X.K .eW):=by
 intro pi s Z H xs us Q I r h;obtain⟨ds,g,ρ,R,rs,d',g',⟨a,kvs,ns,rfl,ha,hk,hn,rfl,rfl⟩|⟨x,ns,rfl,hx,hn,rfl,rfl⟩,q⟩:=h
 rotate_left
 ·let#[v,rfl,rv]:=rs.one;let#[a,vs,rfl,rl,h]:=xF R rv hx;have:=rl.ints;subst this;exact aC2 pi s Z H _ us Q I r #[_,ns,rfl,h.imp (λz=>z.2) (λz=>z.2.sq),hn,λp hp=>q (ρ++[p]) _ _ (B0 hp) (R.new hp (o:=.lst ((S0 ns).map .int)) (u:=.lst ((S0 ns).map V.int)) (El _)) (.ref (R.v9 p))]
 let#[v,rfl,rv]:=rs.one;let#[a',rfl,ra]:=rv.j6;let#[vs,z1,rk]:=R.cg ha ra;exact av2 hc pi s Z H _ us Q I r #[_,vs,ns,rfl,z1,rk.keys.symm.trans hk,hn,λp hp=>q (ρ++[p]) _ _ (B0 hp) (R.new hp (o:=.lst ((m5 ns).map .int)) (u:=.lst ((m5 ns).map V.int)) (El _)) (.ref (R.v9 p))]
def bH8(hc:X.calm=true):p9 X (.builtin "sum") (rN X.K .sum):=by
 intro pi s Z H xs us Q I r h;let#[ds,g,ρ,R,rs,d',g',h,q]:=h;let#[a,ns,rfl,hl,rfl,rfl]:=h;let#[v,rfl,rv]:=rs.one;let#[a',rfl,ra]:=rv.j6;let#[vs,hq,rs]:=R.items hl ra;have:=rs.ints;subst this;exact WB hc pi s Z H _ us Q I r #[_,ns,rfl,hq,q.now R (.int _)]
def YU:p9 X (.type "int") (rN X.K .int):=by
 intro pi s Z H xs us Q I r h;let#[ds,g,ρ,R,rs,d',g',#[rfl,h],q]:=h;rcases h with⟨i,rfl,rfl⟩|⟨b,rfl,rfl⟩
 ·let#[v,rfl,rv]:=rs.one;obtain rfl:=rv.m9;exact NS pi s Z H _ us Q I r (.inl #[i,rfl,q.now R (.int _)])
 ·let#[v,rfl,rv]:=rs.one;obtain rfl:=rv.T6;exact NS pi s Z H _ us Q I r (.inr #[b,rfl,q.now R (.int _)])
abbrev rM(K:PySem.W.Frag)(p:Pr):V->List V->Hp->VK->Prop:=λx xs H Q=>∃d ds g ρ,Rl K ρ g H/\f7 K ρ H d x/\c8 K ρ H ds xs/\cL p (d::ds) g (LQ K ρ H Q)
def V4{a b}{m}(h:a::l=b::m):a=b/\l=m:=by cases h;exact#[rfl,rfl]
def Wu:lE X "list.append" (rM X.K .append):=by
 intro pi s Z H x xs v us Q I rx r h;let#[d,ds,g,ρ,R,rd,rs,d',g',#[a,y,l,ex,ha,hz,rfl,rfl],q]:=h;let#[rfl,rfl]:=V4 ex;let#[a',rfl,ra]:=rd.j6;let#[w,rfl,fE]:=rs.one;let#[vs,z1,rv]:=R.lst ha ra;let#[R2,e2]:=R.write ha ra (rv.append (.cons fE .nil));exact Xe pi s Z H _ _ v us Q I rx r #[_,vs,_,rfl,rfl,z1,by rw[<- rv.length];exact Gk hz,q ρ _ _ e2 R2 .br]
def UC:lE X "list.clear" (rM X.K .clear):=by
 intro pi s Z H x xs v us Q I rx r h;let#[d,ds,g,ρ,R,rd,rs,d',g',#[a,l,ex,ha,rfl,rfl],q]:=h;let#[rfl,rfl]:=V4 ex;let#[a',rfl,ra]:=rd.j6;cases rs;let#[vs,z1,rv]:=R.lst ha ra;let#[R2,e2]:=R.write ha ra (c8.nil);exact Vf pi s Z H _ _ v us Q I rx r #[_,vs,rfl,rfl,z1,q ρ _ _ e2 R2 .br]
def Th:lE X "list.pop" (rM X.K .rL):=by
 intro pi s Z H x xs v us Q I rx r h;let#[d,ds,g,ρ,R,rd,rs,y,g',#[a,l,ex,ha,rfl],q]:=h;let#[rfl,rfl]:=V4 ex;let#[a',rfl,ra]:=rd.j6;cases rs;let#[vs,z1,rv]:=R.lst ha ra;let#[w,hw,fE]:=rv.get (i:=l.length) (d:=y) #[_];have hl:vs.length=l.length+1:=by rw[<- rv.length];simp
 have rl:c8 X.K ρ H l vs.dropLast:=by
  have:=rv.erase l.length;rw[List.eraseIdx_append_of_length_le (av _)] at this;rw[show vs.eraseIdx l.length=vs.dropLast by rw[List.eraseIdx_eq_dropLast];omega] at this;simpa using this
 let#[R2,e2]:=R.write ha ra rl;exact Zi pi s Z H _ _ v us Q I rx r #[_,vs,w,rfl,rfl,z1,by rw[hl];exact hw,q ρ _ _ e2 R2 (fE.ext e2)]
def bC4(hc:X.calm=true):p9 X (.type "set") (rN X.K .rS):=by
 intro pi s Z H xs us Q I r h;let#[ds,g,ρ,R,rs,d',g',#[a,ns,rfl,ha,hz,rfl,rfl],q]:=h;let#[v,rfl,rv]:=rs.one;let#[a',rfl,ra]:=rv.j6;let#[vs,z1,rk]:=R.items ha ra;obtain rfl:=rk.ints;refine aH2 hc pi s Z H _ us Q I r #[a',ns,rfl,z1,hz,λp hp=>?_];exact q (ρ++[p]) _ _ (B0 hp) (R.new hp (o:=.set (λk=>decide (k∈ns)) (ST.f9 [] ns).length) (u:=.set (λk=>decide (k∈ns)) (ST.f9 [] ns).length) #[rfl,rfl]) (.ref (R.v9 p))
def VB:lE X "list.pop" (rM X.K .pop):=by
 intro pi s Z H x xs v us Q I rx r h;let#[d,ds,g,ρ,R,rd,rs,y,g',#[a,i,l,k,ex,ha,h1,h2,hk,hy,rfl],q]:=h;let#[rfl,rfl]:=V4 ex;let#[a',rfl,ra]:=rd.j6;let#[w,rfl,fE]:=rs.one;obtain rfl:=fE.m9;let#[vs,z1,rv]:=R.lst ha ra;let#[w,hw,fE]:=rv.get hy;let#[R2,e2]:=R.write ha ra (rv.erase k);exact Vh pi s Z H _ _ v us Q I rx r #[_,vs,i,k,w,rfl,rfl,z1,h1,h2,by rw[<- rv.length];exact hk,hw,q ρ _ _ e2 R2 (fE.ext e2)]
def c8.strs{K ρ H}{ys:List Str}(h:c8 K ρ H (ys.map D.str) vs):vs=ys.map V.str:=by
 induction ys generalizing vs with
 |nil=>cases h;rfl
 |cons y ys ih =>
  cases h with
  |cons q r=>cases q;rw[ih r];rfl
def ty_list(R:Rl X.K ρ g H)(r:f7 X.K ρ H d v)(h:∃a l,d=.ref a/\d7 g a=some l):nM X.K "list" v H:=by
 let#[a,l,rfl,hl]:=h;let#[a',rfl,ra]:=r.j6;let#[vs,hq,_]:=R.items hl ra;exact .inl #[rfl,vs,hq]
def Tu:lE X "set.add" (rM X.K .ka):=by
 intro pi s Z H x xs v us Q I rx r h;let#[d,ds,g,ρ,R,rd,rs,d',g',#[a,i,S,n,ex,ha,hn,rfl,rfl],q]:=h;let#[rfl,rfl]:=V4 ex;let#[a',rfl,ra]:=rd.j6;let#[w,rfl,fE]:=rs.one;obtain rfl:=fE.m9;let#[R2,e2]:=R.put (o':=.set (λk=>S k||decide (k=i)) (if S i then n else n+1)) (u:=.set (λk=>S k||decide (k=i)) (if S i then n else n+1)) ha rfl ra #[rfl,rfl];exact a14 pi s Z H _ _ v us Q I rx r #[_,i,S,n,rfl,rfl,R.set ha ra,hn,q ρ _ _ e2 R2 .br]
def ty_set(R:Rl X.K ρ g H)(r:f7 X.K ρ H d v)(h:mJ .ka d g):nM X.K "set" v H:=by
 let#[a,S,n,rfl,hl]:=h;let#[a',rfl,ra]:=r.j6;exact .inr (.inr (.inr #[rfl,S,n,R.set hl ra]))
def bD8:lE X "dict.pop" (rM X.K .iW):=by
 intro pi s Z H x xs v us Q I rx r h;let#[d,ds,g,ρ,R,rd,rs,d',g',#[a,y,kvs,c,ex,ha,hc,hv,rfl],q]:=h;let#[rfl,rfl]:=V4 ex;let#[a',rfl,ra]:=rd.j6;let#[w1,rfl,r1]:=rs.one;let#[vs,z1,rv]:=R.cg ha ra;have:=U7 hc r1;subst this;cases rx;have q2:=rv.val c;rw[hv] at q2;let#[w,hw,q2]:=q2.some;let#[R2,e2]:=R.put (o':=.cg (delD kvs c)) (u:=.dK (tj vs c)) ha rfl ra (rv.drop c);cases r with
 |cons r rr =>
 cases rr;exact b18 I z1 r hw (.inl rfl) λw' s3 I3 fE=>#[w,_,I3,fE,q ρ _ _ e2 R2 (q2.ext e2)]
def ty_dict(R:Rl X.K ρ g H)(r:f7 X.K ρ H d v)(h:mJ .get d g):nM X.K "dict" v H:=by
 let#[a,l,rfl,hl]:=h;let#[a',rfl,ra]:=r.j6;let#[vs,hq,_]:=R.cg hl ra;exact .inr (.inr (.inl #[rfl,.inl #[vs,hq]]))
noncomputable abbrev ie:=List Str×XK
abbrev LX(K:PySem.W.Frag)(ρ:List Addr)(H:Hp)(Ξ:ie):KX:=λx g'=>∀bT H' C,Ext ρ H bT H'->Rl K bT g' H'->x.cls∈Ξ.1->v5 K x.cls C->Ξ.2 (.ref C) none H'
def LX.ext{K}{cc}{H1}{Ξ}(e:Ext ρ H cc H1){x}(h:LX K ρ H Ξ x g):LX K cc H1 Ξ x g:=λbT H' C e' R hm c=>h bT H' C (e.trans e') R hm c
noncomputable abbrev oE(ex:List Str):ie:=(ex,λ_ _ _=>False)
abbrev LE(K:PySem.W.Frag)(Ξ:ie)(t:S->G->KD->KX->Prop):TE:=λcq H Q=>∃Z g ρ,u1 K ρ H Z cq/\Rl K ρ g H/\t Z g (LQ K ρ H Q) (LX K ρ H Ξ)
abbrev LT(K:PySem.W.Frag)(Ξ:ie)(t:S->G->(Bool->G->Prop)->KX->Prop):TT:=λcq H Q=>∃Z g ρ,u1 K ρ H Z cq/\Rl K ρ g H/\t Z g (λb g'=>∀bT H',Ext ρ H bT H'->Rl K bT g' H'->Q b H') (LX K ρ H Ξ)
abbrev LA(K:PySem.W.Frag)(Ξ:ie)(t:S->G->(List D->G->Prop)->KX->Prop):TA:=λcq H Q=>∃Z g ρ,u1 K ρ H Z cq/\Rl K ρ g H/\t Z g (λds g'=>∀bT H' vs,Ext ρ H bT H'->Rl K bT g' H'->c8 K bT H' ds vs->Q vs H') (LX K ρ H Ξ)
abbrev ou(K:PySem.W.Frag)(fW:List Addr)(H0:Hp)(k:IK)(J:It):Prop:=∀ρ g H,Ext fW H0 ρ H->Rl K ρ g H->∀i,(k.at i g=some none->J.stop i H) /\
 ∀d,k.at i g=some (some d)->J.go i H/\∀v H',J.nJ i H v H'->Ext ρ H ρ H'/\Rl K ρ g H'/\f7 K ρ H' d v
abbrev LI(K:PySem.W.Frag)(Ξ:ie)(t:S->G->(IK->G->Prop)->KX->Prop):TI:=λcq H R=>∃Z g ρ,u1 K ρ H Z cq/\Rl K ρ g H/\t Z g (λk g'=>∀bT H' J,Ext ρ H bT H'->Rl K bT g' H'->ou K bT H' k J->R J H') (LX K ρ H Ξ)
abbrev LG(K:PySem.W.Frag)(t:MT):TG:=λv cq H Q=>∃d Z g ρ,u1 K ρ H Z cq/\Rl K ρ g H/\f7 K ρ H d v/\jT t d Z (λbV=>∀cQ,u1 K ρ H bV cQ->Q cQ H)
abbrev LN(K:PySem.W.Frag)(ρ:List Addr)(H:Hp)(N:L2.Ends):Ends where
 nx:=λbV g'=>∀bT H' cQ,Ext ρ H bT H'->Rl K bT g' H'->u1 K bT H' bV cQ->N.nx cQ H'
 rt:=LQ K ρ H N.rt
 bk:=λbV g'=>∀bT H' cQ,Ext ρ H bT H'->Rl K bT g' H'->u1 K bT H' bV cQ->N.bk cQ H'
 ct:=λbV g'=>∀bT H' cQ,Ext ρ H bT H'->Rl K bT g' H'->u1 K bT H' bV cQ->N.ct cQ H'
abbrev LS(K:PySem.W.Frag)(Ξ:ie)(t:Ends->S->G->KX->Prop):TS:=λN cq H=>∃Z g ρ,u1 K ρ H Z cq/\Rl K ρ g H/\t (LN K ρ H N) Z g (LX K ρ H Ξ)
end M
namespace L2
open PySem PySem.Spec PyProof.Rows
variable{t t':TT}
section
variable{X:Cx}{e:Expr}
def PE.imp{t t'}(h:PE X e t)(i:∀Z H Q,t' Z H Q->t Z H Q):PE X e t':=λpi s Z H Q I q=>h pi s Z H Q I (i Z H Q q)
def PT.imp(h:PT X e t)(i:∀Z H Q,t' Z H Q->t Z H Q):PT X e t':=λpi s Z H Q I q=>h pi s Z H Q I (i Z H Q q)
def PW.imp(h:PW X e t)(i:∀Z H Q,t' Z H Q->t Z H Q):PW X e t':=λw pi s Z H Q I q=>h w pi s Z H Q I (i Z H Q q)
def PA.imp{es}{t t'}(h:PA X es t)(i:∀Z H Q,t' Z H Q->t Z H Q):PA X es t':=λp pi s Z H Q I q=>h p pi s Z H Q I (i Z H Q q)
def jy.imp{es}(h:jy X es t)(i:∀Z H Q,t' Z H Q->t Z H Q):jy X es t':=λpi s Z H Q I q=>h pi s Z H Q I (i Z H Q q)
def PI.imp{tg}{t t'}(h:PI X tg e t)(i:∀Z H Q,t' Z H Q->t Z H Q):PI X tg e t':=λpi s Z H Q I q=>h pi s Z H Q I (i Z H Q q)
def PG.imp{t t'}(h:PG X e t)(i:∀v Z H Q,t' v Z H Q->t v Z H Q):PG X e t':=λpi s Z H v u Q I r q=>h pi s Z H v u Q I r (i v Z H Q q)
def PS.imp{st}{t t'}(h:PS X st t)(i:∀N Z H,t' N Z H->t N Z H):PS X st t':=λpi s Z H N I q=>h pi s Z H N I (i N Z H q)
def jd.imp{st}{t t'}(h:jd X st t)(i:∀N Z H,t' N Z H->t N Z H):jd X st t':=λpi s Z H N I q=>h pi s Z H N I (i N Z H q)
end
end L2
namespace M
open PySem L2 PySem.Spec PyProof.Rows
variable{Ξ:ie}{P:fb}{op ir:CmpOp}{rest es:List Expr}{gN mo:ME}{p2 q apos jG:Pos}{o:Expr}
section
variable{K:PySem.W.Frag}(hP:j8 P){ρ fW:List Addr}{H H0:Hp}{Z:S}{cq:L2.St}{g:G}{m:ME}
include hP
def ft{Q0}{Q}(s:u1 K ρ H Z cq)(R:Rl K ρ g H)(e0:Ext fW H0 ρ H)(h:aW P m Z g Q0 (LX K fW H0 Ξ))(k:∀x g1 cc H1 v1,Ext ρ H cc H1->Rl K cc g1 H1->f7 K cc H1 x v1->Q0 x g1->Q v1 H1):LE K Ξ (aW P m) cq H Q :=
 #[Z,g,ρ,s,R,c9 hP m _ _ _ _ _ _ (λx g1 h cc H1 v1 e1 R1 r1=>k x g1 cc H1 v1 e1 R1 r1 h) (λ_ _ z=>LX.ext e0 z) h]
def jE{Q0}{Q}(s:u1 K ρ H Z cq)(R:Rl K ρ g H)(e0:Ext fW H0 ρ H)(h:fJ P m Z g Q0 (LX K fW H0 Ξ))(k:∀x g1 cc H1 v1,Ext ρ H cc H1->Rl K cc g1 H1->c8 K cc H1 x v1->Q0 x g1->Q v1 H1):LA K Ξ (fJ P m) cq H Q :=
 #[Z,g,ρ,s,R,K3 hP m _ _ _ _ _ _ (λx g1 h cc H1 v1 e1 R1 r1=>k x g1 cc H1 v1 e1 R1 r1 h) (λ_ _ z=>LX.ext e0 z) h]
def qe{Q0}{Q}(s:u1 K ρ H Z cq)(R:Rl K ρ g H)(e0:Ext fW H0 ρ H)(h:dP P m Z g Q0 (LX K fW H0 Ξ))(k:∀t g1 cc H1,Ext ρ H cc H1->Rl K cc g1 H1->Q0 t g1->Q t H1):LT K Ξ (dP P m) cq H Q :=
 #[Z,g,ρ,s,R,u7 hP m _ _ _ _ _ _ (λt g1 h cc H1 e1 R1=>k t g1 cc H1 e1 R1 h) (λ_ _ z=>LX.ext e0 z) h]
def tO{ms}{N}{N0}(s:u1 K ρ H Z cq)(R:Rl K ρ g H)(e0:Ext fW H0 ρ H)(h:wpS P ms N0 Z g (LX K fW H0 Ξ))(k:N0.le (LN K ρ H N)):LS K Ξ (wpS P ms) N cq H :=
 #[Z,g,ρ,s,R,wpS_mono hP ms _ _ _ _ _ _ k (λ_ _ z=>LX.ext e0 z) h]
end
def c8.lZ{K ρ H}(lo:Int)(n:Nat):c8 K ρ H (E0 lo n) ((List.range n).map λ(k:Nat)=>V.int (lo+k)):=by
 have:∀l:List Nat,c8 K ρ H (l.map λ(k:Nat)=>D.int (lo+k)) (l.map λ(k:Nat)=>V.int (lo+k)):=by
  intro l
  induction l with
  |nil=>exact .nil
  |cons x r ih=>exact .cons (.int _) ih
 exact this _
section
variable{X:Cx}(hP:j8 P){a b c e:Expr}{ma mb mc:ME}{pos:Pos}{p:Pr}
include hP
def FN(h:PE X e (qh (r2 X.K p) (LE X.K Ξ (aW P ma)) (LE X.K Ξ (aW P mb)))):PE X e (LE X.K Ξ (aW P (.prim p (.cons ma (.cons mb .nil))))) :=
 h.imp λcq H Q bp=>by
  let#[Z,g,ρ,s,R,h]:=bp;exact ft hP s R (.refl _ _) h λx g1 cc H1 v1 e1 R1 r1 h=>ft hP (s.ext e1) R1 e1 h λy g2 eR H2 v2 e2 R2 r2 h =>
   #[x,y,g2,eR,R2,r1.ext e2,r2,w5 (λd g' h=>h.ext (e1.trans e2)) h]
def bI0(h:PT X e (xp (qh (r2 X.K (.cmp op)) (LE X.K Ξ (aW P ma)) (LE X.K Ξ (aW P mb))))):PT X e (LT X.K Ξ (dP P (.eB (.prim (.cmp op) (.cons ma (.cons mb .nil)))))) :=
 h.imp λcq H Q bp=>by
  let#[Z,g,ρ,s,R,h]:=bp;refine ft hP s R (.refl _ _) h λx g1 cc H1 v1 e1 R1 r1 h=>ft hP (s.ext e1) R1 e1 h λy g2 eR H2 v2 e2 R2 r2 h=>?_;let#[d',g',h,q]:=h;let#[x',y',t,ex,hc,rfl,rfl]:=id h;refine#[x,y,g',eR,R2,r1.ext e2,r2,_,_,h,λbT H' v e' R' r'=>?_];let#[t',ht,q]:=q;rcases ht with⟨z,_⟩|z|⟨i,z,_⟩|⟨l,z,_⟩|⟨a,l,z,_⟩<;>cases z
  exact#[_,r'.T6,q bT H' (e1.trans (e2.trans e')) R']
def Ya{op}(ha:PE X a (LE X.K Ξ (aW P ma))):PE X (.UnaryOp op a pos) (LE X.K Ξ (aW P (.prim (.un op) (.cons ma .nil)))) :=
 (XM (XE op) ha).imp λcq H Q bp=>by
  let#[Z,g,ρ,s,R,h]:=bp;exact ft hP s R (.refl _ _) h λx g1 cc H1 v1 e1 R1 r1 h=>#[x,g1,cc,R1,r1,w5 (λd g' h=>h.ext e1) h]
def Nf:∀cq H Q,LE X.K Ξ (aW P (.chain op ir ma mb mc)) cq H Q->FP (r2 X.K (.cmp op)) (r2 X.K (.cmp ir)) (LE X.K Ξ (aW P ma)) (LE X.K Ξ (aW P mb)) (LE X.K Ξ (aW P mc)) cq H Q:=λcq H Q bp=>by
 let#[Z,g,ρ,s,R,h]:=bp;refine ft hP s R (.refl _ _) h λx g1 cc H1 v1 e1 R1 r1 h=>ft hP (s.ext e1) R1 e1 h λy g2 eR H2 v2 e2 R2 r2 h=>?_;refine#[x,y,g2,eR,R2,r1.ext e2,r2,w5 (λd g3 h iT H3 v3 e3 R3 r3=>?_) h];let#[t,rfl,h]:=h;obtain rfl:=r3.T6;refine#[t,rfl,?_];cases t
 ·exact h iT H3 _ (e1.trans (e2.trans e3)) R3 (.bl _)
 ·exact ft hP (s.ext (e1.trans (e2.trans e3))) R3 (e1.trans (e2.trans e3)) h λz g4 lL H4 v4 e4 R4 r4 h =>
   #[y,z,g4,lL,R4,r2.ext (e3.trans e4),r4,w5 (λd g' h=>h.ext (e1.trans (e2.trans (e3.trans e4)))) h]
def VO(hu:X.A.units+100<cLine)(ha:PE X a (LE X.K Ξ (aW P ma)))(hb:PE X b (LE X.K Ξ (aW P mb)))(hc:PE X c (LE X.K Ξ (aW P mc)))(hm:lastMarks [op,ir] [b,c]=false) :
  PE X (.Compare a [op,ir] [b,c] pos) (LE X.K Ξ (aW P (.chain op ir ma mb mc))):=(Vq (uF hu op) (uF hu ir) ha hb hc hm).imp (Nf hP)
def UB{Z}{g}{Q}{E}(h:dP P (.eB (.chain op ir ma mb mc)) Z g Q E):aW P (.chain op ir ma mb mc) Z g (λd g'=>∃t,d=.bl t/\Q t g') E:=by
 have one:∀{o:CmpOp} {xs:List D} {g:G},cL (.cmp o) xs g (λd g1=>pR g1 d λb=>Q b g1)->cL (.cmp o) xs g λd g'=>∃t,d=.bl t/\Q t g':=by
  intro o xs g h;let#[d',g',h,t',ht,q]:=h;let#[x',y',t,ex,hc,rfl,rfl]:=id h;refine#[_,_,h,t',?_,q];rcases ht with⟨z,_⟩|z|⟨i,z,_⟩|⟨l,z,_⟩|⟨a,l,z,_⟩<;>first|exact z|cases z
 refine c9 hP ma _ _ _ _ _ _ (λx g1 h=>c9 hP mb _ _ _ _ _ _ (λy g2 h=>w5 (λz g3 h=>?_) h) (λ_ _ z=>z) h) (λ_ _ z=>z) h;let#[t,rfl,h]:=h;refine#[t,rfl,?_];cases t
 ·let#[b,hb,q]:=(show pR g3 (.bl false) λb=>Q b g3 from h)
  rcases hb with⟨z,_⟩|z|⟨i,z,_⟩|⟨l,z,_⟩|⟨a,l,z,_⟩<;>first|(cases z;exact#[_,rfl,q])|cases z
 ·exact c9 hP mc _ _ _ _ _ _ (λw g4 h=>one h) (λ_ _ z=>z) h
def Wb(hu:X.A.units+100<cLine)(ha:PE X a (LE X.K Ξ (aW P ma)))(hb:PE X b (LE X.K Ξ (aW P mb)))(hc:PE X c (LE X.K Ξ (aW P mc)))(hm:lastMarks [op,ir] [b,c]=false) :
  PT X (.Compare a [op,ir] [b,c] pos) (LT X.K Ξ (dP P (.eB (.chain op ir ma mb mc)))) :=
 (VG (uF hu op) (uF hu ir) ha hb hc hm).imp λcq H Q ⟨Z,g,ρ,s,R,h⟩ =>
  Nf hP cq H _ (ft hP s R (.refl _ _) (UB hP h) λx g1 cc H1 v1 e1 R1 r1 h=>by
   let#[t,rfl,h]:=h;exact #[t,r1.T6,h cc H1 e1 R1])
def Z'(ha:PE X a (LE X.K Ξ (aW P ma)))(hb:PE X (.BoolOp .And (b::rest) pos) (LE X.K Ξ (aW P mb))):PE X (.BoolOp .And (a::b::rest) pos) (LE X.K Ξ (aW P (.dS ma mb))) :=
 (Zz ha hb).imp λcq H Q bp=>by
  let#[Z,g,ρ,s,R,h]:=bp;refine ft hP s R (.refl _ _) h λx g1 cc H1 v1 e1 R1 r1 h=>?_;let#[t,rfl,h]:=h;refine#[t,r1.T6,?_];cases t
  ·exact h cc H1 _ e1 R1 (.bl _)
  ·exact ft hP (s.ext e1) R1 e1 h λy g2 eR H2 v2 e2 R2 r2 h=>h eR H2 v2 (e1.trans e2) R2 r2
def X'(ha:PE X a (LE X.K Ξ (aW P ma)))(hb:PE X (.BoolOp .Or (b::rest) pos) (LE X.K Ξ (aW P mb))):PE X (.BoolOp .Or (a::b::rest) pos) (LE X.K Ξ (aW P (.gF ma mb))) :=
 (XJ ha hb).imp λcq H Q bp=>by
  let#[Z,g,ρ,s,R,h]:=bp;refine ft hP s R (.refl _ _) h λx g1 cc H1 v1 e1 R1 r1 h=>?_;let#[t,rfl,h]:=h;refine#[t,r1.T6,?_];cases t
  ·exact ft hP (s.ext e1) R1 e1 h λy g2 eR H2 v2 e2 R2 r2 h=>h eR H2 v2 (e1.trans e2) R2 r2
  ·exact h cc H1 _ e1 R1 (.bl _)
def bJ5(ha:PE X a (LE X.K Ξ (aW P ma))):PE X (.UnaryOp .Not a pos) (LE X.K Ξ (aW P (.de ma))) :=
 (ZG ha).imp λcq H Q bp=>by
  let#[Z,g,ρ,s,R,h]:=bp;refine ft hP s R (.refl _ _) h λx g1 cc H1 v1 e1 R1 r1 h=>?_;let#[t,rfl,h]:=h;exact#[t,r1.T6,h cc H1 _ e1 R1 (.bl _)]
def bJ6(hc:PT X c (LT X.K Ξ (dP P mc)))(ha:PE X a (LE X.K Ξ (aW P ma)))(hb:PE X b (LE X.K Ξ (aW P mb))):PE X (.IfExp c a b pos) (LE X.K Ξ (aW P (.ite mc ma mb))) :=
 (Vs hc ha hb).imp λcq H Q bp=>by
  let#[Z,g,ρ,s,R,h]:=bp;refine qe hP s R (.refl _ _) h λt g1 cc H1 e1 R1 h=>?_;cases t
  ·exact ft hP (s.ext e1) R1 e1 h λy g2 eR H2 v2 e2 R2 r2 h=>h eR H2 v2 (e1.trans e2) R2 r2
  ·exact ft hP (s.ext e1) R1 e1 h λy g2 eR H2 v2 e2 R2 r2 h=>h eR H2 v2 (e1.trans e2) R2 r2
def bJ4{k}(h:PA X es (LA X.K Ξ (fJ P gN))):PE X (.Tuple es k pos) (LE X.K Ξ (aW P (.prim .tup gN))) :=
 (ZJ h).imp λcq H Q bp=>by
  let#[Z,g,ρ,s,R,h]:=bp;refine jE hP s R (.refl _ _) h λds g1 cc H1 vs e1 R1 r1 h=>?_;let#[d',g',#[hz,rfl,rfl],q]:=h;exact#[by rw[<- r1.length];exact E4 (aD hz ∅),λp hp=>(q.ext e1).tup R1 hp r1]
def OB(h:PA X es (LA X.K Ξ (fJ P gN))):PE X (.List es pos) (LE X.K Ξ (aW P (.prim .lst gN))) :=
 (ZE h).imp λcq H Q bp=>by
  let#[Z,g,ρ,s,R,h]:=bp;refine jE hP s R (.refl _ _) h λds g1 cc H1 vs e1 R1 r1 h=>?_;let#[d',g',#[hz,rfl,rfl],q]:=h;exact#[by rw[<- r1.length];exact E4 (aD hz ∅),λp hp=>(q.ext e1).new R1 hp r1]
def M9:PA X [] (LA X.K Ξ (fJ P .nil)) :=
 (uG (X:=X)).imp λcq H Q bp=>by
  let#[Z,g,ρ,s,R,h]:=bp;exact h ρ H [] (.refl _ _) R .nil
def F4(ha:PE X a (LE X.K Ξ (aW P ma)))(h:PA X es (LA X.K Ξ (fJ P gN)))(hs:starEach (a::es) X.env=(false,eval a X.env)::starEach es X.env):PA X (a::es) (LA X.K Ξ (fJ P (.cons ma gN))) :=
 (Z9 ha h hs).imp λcq H Q bp=>by
  let#[Z,g,ρ,s,R,h]:=bp;exact ft hP s R (.refl _ _) h λx g1 cc H1 v1 e1 R1 r1 h=>jE hP (s.ext e1) R1 e1 h λxs g2 eR H2 vs e2 R2 r2 h=>h eR H2 _ (e1.trans e2) R2 (.cons (r1.ext e2) r2)
def VY(ha:PE X a (LE X.K Ξ (aW P ma)))(hb:PE X b (LE X.K Ξ (aW P mb))):PE X (.Subscript a (.Slice (some b) none none p2) pos) (LE X.K Ξ (aW P (.prim (.lY true false) (.cons ma (.cons mb .nil))))) :=
 (Ny JE ha (MH hb) MG).imp λcq H Q bp=>by
  let#[Z,g,ρ,s,R,h]:=bp;refine ft hP s R (.refl _ _) h λx g1 cc H1 v1 e1 R1 r1 h=>ft hP (s.ext e1) R1 e1 h λy g2 eR H2 v2 e2 R2 r2 h=>?_;let#[d',g',#[x',i,ex,h],q]:=h;cases ex;exact#[i,r2.m9,x,g2,eR,d',g',R2,r1.ext e2,h,q.ext (e1.trans e2)]
def VX(ha:PE X a (LE X.K Ξ (aW P ma)))(hb:PE X b (LE X.K Ξ (aW P mb))):PE X (.Subscript a (.Slice none (some b) none p2) pos) (LE X.K Ξ (aW P (.prim (.lY false true) (.cons ma (.cons mb .nil))))) :=
 (Ny JE ha MG (MH hb)).imp λcq H Q bp=>by
  let#[Z,g,ρ,s,R,h]:=bp;refine ft hP s R (.refl _ _) h λx g1 cc H1 v1 e1 R1 r1 h=>ft hP (s.ext e1) R1 e1 h λy g2 eR H2 v2 e2 R2 r2 h=>?_;let#[d',g',#[x',i,ex,h],q]:=h;cases ex;exact#[i,r2.m9,x,g2,eR,d',g',R2,r1.ext e2,h,q.ext (e1.trans e2)]
def bH9(ha:PE X a (LE X.K Ξ (aW P ma)))(he:∀whole,isTrue a X.env whole=(do let v <- whole;standAt a.pos;holding [v] (truthy v))):PT X a (LT X.K Ξ (dP P (.eB ma))) :=
 (VH ha he).imp λcq H Q bp=>by
  let#[Z,g,ρ,s,R,h]:=bp;refine ft hP s R (.refl _ _) h λx g1 cc H1 v1 e1 R1 r1 h=>?_;let#[b,h1,h2]:=h;exact#[b,bG3 R1 r1 h1,h2 cc H1 e1 R1]
def bI1(ha:PT X a (LT X.K Ξ (dP P ma))):PT X (.UnaryOp .Not a pos) (LT X.K Ξ (dP P (.de ma))) :=
 (ZS ha).imp λcq H Q bp=>by
  let#[Z,g,ρ,s,R,h]:=bp;exact qe hP s R (.refl _ _) h λt g1 cc H1 e1 R1 h=>h cc H1 e1 R1
def bH7(ha:PT X a (LT X.K Ξ (dP P ma)))(hb:PW X (.BoolOp .And (b::rest) pos) (LT X.K Ξ (dP P mb))):PW X (.BoolOp .And (a::b::rest) pos) (LT X.K Ξ (dP P (.dS ma mb))) :=
 (ZT ha hb).imp λcq H Q bp=>by
  let#[Z,g,ρ,s,R,h]:=bp;refine qe hP s R (.refl _ _) h λt g1 cc H1 e1 R1 h=>?_;cases t
  ·exact h cc H1 e1 R1
  ·exact qe hP (s.ext e1) R1 e1 h λt g2 eR H2 e2 R2 h=>h eR H2 (e1.trans e2) R2
def Yc(ha:PT X a (LT X.K Ξ (dP P ma)))(hb:PW X (.BoolOp .Or (b::rest) pos) (LT X.K Ξ (dP P mb))):PW X (.BoolOp .Or (a::b::rest) pos) (LT X.K Ξ (dP P (.gF ma mb))) :=
 (XQ ha hb).imp λcq H Q bp=>by
  let#[Z,g,ρ,s,R,h]:=bp;refine qe hP s R (.refl _ _) h λt g1 cc H1 e1 R1 h=>?_;cases t
  ·exact qe hP (s.ext e1) R1 e1 h λt g2 eR H2 e2 R2 h=>h eR H2 (e1.trans e2) R2
  ·exact h cc H1 e1 R1
def Ub:jy X [] (LT X.K Ξ (dP P .no)) :=
 (MJ (X:=X)).imp λcq H Q bp=>by
  let#[Z,g,ρ,s,R,h]:=bp;exact h ρ H (.refl _ _) R
def bJ9{x}{v}(hv:(∃id,v=.builtin id)\/∃T,v=.type T)(hc:p9 X v (rN X.K p))(hg:Gl X x)(hm:X.mg x=none)(hb:bootBuiltins x=some v)(ha:PA X (e::es) (LA X.K Ξ (fJ P gN)))(hn:x≠"__name__")(hd:(x==("__debug__":Str))=false)(fA:starEach (e::es) X.env=(false,eval e X.env)::starEach es X.env)(gC:(backTo pos (starEach es X.env)).any (·.1)=false):PE X (.Call (.Name x q) (e::es) [] pos) (LE X.K Ξ (aW P (.prim p gN))):=by
 have base:PE X (.Call (.Name x q) (e::es) [] pos) (Bf (rN X.K p) (LA X.K Ξ (fJ P gN))):=by
  rcases hv with⟨id,rfl⟩|⟨T,rfl⟩
  ·exact zN hc hg hm hb ha hn hd fA gC
  ·exact X5 hc hg hm hb ha hn hd fA gC
 refine base.imp λcq H Q bp=>?_;let#[Z,g,ρ,s,R,h]:=bp;exact jE hP s R (.refl _ _) h λxs g1 cc H1 vs e1 R1 r1 h=>#[xs,g1,cc,R1,r1,w5 (λd g' h=>h.ext e1) h]
def MQ{T}{name}{id}(pa:PlainAttrs T)(slot:Slot T name id)(rY:typeOf (.builtin id)=pure (.type "method_descriptor"))(hm:lE X id (rM X.K p))(hk:∀{d:D} {v:V} {g:G} {ρ:List Addr} {H:Hp},Rl X.K ρ g H->f7 X.K ρ H d v->mJ p d g->nM X.K T v H)(ho:PE X o (LE X.K Ξ (aW P mo)))(ha:PA X (e::es) (LA X.K Ξ (fJ P gN)))(fI:attributeBase o name X.env (eval o X.env)=eval o X.env)(kR:((backTo pos (starEach (e::es) X.env)).all (λx=>!x.1)&&(backToKw pos (keywordEach [] X.env)).all (λx=>x.1.isSome)&&decide ((e::es).length+([]:List Keyword).length+(if([]:List Keyword).isEmpty then 0 else 1)<30))=true)(fH:(apos.endLine==pos.line)=true)(hs:starEach (e::es) X.env=(false,eval e X.env)::starEach es X.env)(fe:(backTo pos (starEach es X.env)).any (·.1)=false) :
  PE X (.Call (.Attribute o name apos) (e::es) [] pos) (LE X.K Ξ (aW P (.fu p mo gN))) :=
 (XH pa slot rY hm ho ha fI kR fH hs fe).imp λcq H Q bp=>by
  let#[Z,g,ρ,s,R,h]:=bp;exact ft hP s R (.refl _ _) h λx g1 cc H1 v1 e1 R1 r1 h=>#[hk R1 r1 h.1,jE hP (s.ext e1) R1 e1 h.2 λxs g2 eR H2 ws e2 R2 r2 h =>
   #[x,xs,g2,eR,R2,r1.ext e2,r2,w5 (λd g' h=>h.ext (e1.trans e2)) h]]
def VT{T}{name}{id}(pa:PlainAttrs T)(slot:Slot T name id)(rY:typeOf (.builtin id)=pure (.type "method_descriptor"))(hm:lE X id (rM X.K p))(hk:∀{d:D} {v:V} {g:G} {ρ:List Addr} {H:Hp},Rl X.K ρ g H->f7 X.K ρ H d v->mJ p d g->nM X.K T v H)(ho:PE X o (LE X.K Ξ (aW P mo)))(fI:attributeBase o name X.env (eval o X.env)=eval o X.env)(fH:(apos.endLine==pos.line)=true) :
  PE X (.Call (.Attribute o name apos) [] [] pos) (LE X.K Ξ (aW P (.fu p mo .nil))) :=
 (ZA pa slot rY hm ho fI fH).imp λcq H Q bp=>by
  let#[Z,g,ρ,s,R,h]:=bp;exact ft hP s R (.refl _ _) h λx g1 cc H1 v1 e1 R1 r1 h=>#[hk R1 r1 h.1,x,[],g1,cc,R1,r1,.nil,w5 (λd g' h=>h.ext e1) h.2]
omit hP in
def Nn{K ρ H}{d}{v}(r:f7 K ρ H d v)(h:Ak d=true):v=toV d/\M6 v=true:=by
 cases r with
 |br=>exact#[rfl,rfl]
 |bl _=>exact#[rfl,rfl]
 |int _=>exact#[rfl,rfl]
 |str _=>exact#[rfl,rfl]
 |ty _=>exact absurd h bY
 |ref _=>exact absurd h bY
 |tup _ _=>exact absurd h bY
omit hP in
def WJ{K ρ H}{l}{vs}(r:c8 K ρ H l vs)(h:l.all Ak=true):vs=l.map toV/\vs.all M6=true:=by
 induction l generalizing vs with
 |nil=>cases r;exact#[rfl,rfl]
 |cons d l ih =>
  cases r with
  |cons rd rs =>
   rw[gR,aP] at h;let#[e1,f1]:=Nn rd h.1;let#[e2,f2]:=ih rs h.2;subst e1 e2;exact#[rfl,by rw[gR,f1,f2];rfl]
omit hP in
def WI{K ρ H}{l}{vs}{y}{w}{n}(r:c8 K ρ H l vs)(ry:f7 K ρ H y w)(h:JS l y n):FZ vs w n:=by
 let#[h1,h2,#[z,h3,h4],h5]:=h;let#[e1,f1]:=WJ r h1;let#[e2,f2]:=Nn ry h2;subst e1 e2;refine#[f1,f2,#[toV z,by rw[ah,h3];rfl,h4],λm z' hm hz=>?_];rw[ah,aa] at hz;let#[Pl,hz,rfl]:=hz;exact h5 m Pl hm hz
def VP(hu:X.A.units+100<cLine)(ho:PE X o (LE X.K Ξ (aW P mo)))(ha:PA X (e::es) (LA X.K Ξ (fJ P gN)))(fI:attributeBase o "index" X.env (eval o X.env)=eval o X.env)(kR:((backTo pos (starEach (e::es) X.env)).all (λx=>!x.1)&&(backToKw pos (keywordEach [] X.env)).all (λx=>x.1.isSome)&&decide ((e::es).length+([]:List Keyword).length+(if([]:List Keyword).isEmpty then 0 else 1)<30))=true)(fH:(apos.endLine==pos.line)=true)(hs:starEach (e::es) X.env=(false,eval e X.env)::starEach es X.env)(fe:(backTo pos (starEach es X.env)).any (·.1)=false) :
  PE X (.Call (.Attribute o "index" apos) (e::es) [] pos) (LE X.K Ξ (aW P (.fu .index mo gN))) :=
 (Vt hu ho ha fI kR fH hs fe).imp λcq H Q bp=>by
  let#[Z,g,ρ,s,R,h]:=bp;refine ft hP s R (.refl _ _) h λx g1 cc H1 v1 e1 R1 r1 h=>?_;let#[hk,h]:=h;let#[a,l,rfl,hl]:=hk
  ·let#[a',rfl,ra]:=r1.j6;let#[vs,hq,_]:=R1.items hl ra;refine#[a',vs,rfl,hq,jE hP (s.ext e1) R1 e1 h λxs g2 eR H2 ws e2 R2 r2 h=>?_];let#[d',g',#[x,y,l',n,ex,hi,W,hz,rfl,rfl],q]:=h;cases ex;let#[w,rfl,fE]:=r2.one;let#[qd,QO,mG]:=R2.items (show d7 _ a=some l' from hi) (e2.get ra);have hn:n<2 ^ 62:=by
     let#[_,_,#[z,HL,_],_]:=W;have:=(aw.mp HL).1;omega
   exact#[a',qd,w,n,rfl,rfl,QO,WI mG fE W,hn,(q.ext (e1.trans e2)).now R2 (.int n)]
def VQ(hc:X.calm=true)(ha:PE X a (LE X.K Ξ (aW P ma)))(mW:Gl X "list")(pz:X.mg "list"=none)(hg:Gl X "range")(hm:X.mg "range"=none)(hs:starEach [a] X.env=[(false,eval a X.env)]) :
  PE X (.Call (.Name "list" p2) [.Call (.Name "range" q) [a] [] pos] [] jG) (LE X.K Ξ (aW P (.prim .mL (.cons ma .nil)))) :=
 (X5 (LU hc) mW pz (by rfl) (Z9 (a93 hg hm (F4 hP ha (M9 hP) (by rw[hs];rfl)) hs) uG)).imp λcq H Q bp=>by
  let#[Z,g,ρ,s,R,h]:=bp;refine jE hP s R (.refl _ _) h λxs g1 cc H1 vs e1 R1 r1 h=>?_;let#[d',g',#[j,rfl,h1,h2,rfl,rfl],q]:=h;let#[v,rfl,rv]:=r1.one;obtain rfl:=rv.m9;refine#[j,rfl,λq' hq=>#[q',0,j,rfl,k6,#[by omega,by omega,h1,by omega,by omega],λp hp=>?_]];rw[show(j-0).toNat=j.toNat by omega];exact(q.ext (e1.trans (A4 hq))).new (R1.grow hq) hp (c8.lZ 0 _)
def VR(hc:X.calm=true)(ha:PE X a (LE X.K Ξ (aW P ma)))(hb:PE X b (LE X.K Ξ (aW P mb)))(mW:Gl X "list")(pz:X.mg "list"=none)(hg:Gl X "range")(hm:X.mg "range"=none)(hs:starEach [a,b] X.env=[(false,eval a X.env),(false,eval b X.env)])(hJ:starEach [b] X.env=[(false,eval b X.env)]) :
  PE X (.Call (.Name "list" p2) [.Call (.Name "range" q) [a,b] [] pos] [] jG) (LE X.K Ξ (aW P (.prim .mK (.cons ma (.cons mb .nil))))) :=
 (X5 (LU hc) mW pz (by rfl) (Z9 (a92 hg hm (F4 hP ha (F4 hP hb (M9 hP) (by rw[hJ];rfl)) (by rw[hs,hJ])) hs hJ) uG)).imp λcq H Q bp=>by
  let#[Z,g,ρ,s,R,h]:=bp;refine jE hP s R (.refl _ _) h λxs g1 cc H1 vs e1 R1 r1 h=>?_;let#[d',g',#[i,j,rfl,hb,rfl,rfl],q]:=h;let#[v,w,rfl,rv,fE]:=r1.two;obtain rfl:=rv.m9;obtain rfl:=fE.m9;exact#[i,j,rfl,λq' hq=>#[q',i,j,rfl,k6,hb,λp hp=>(q.ext (e1.trans (A4 hq))).new (R1.grow hq) hp (c8.lZ i _)]]
def TL(hc:X.calm=true)(ha:PE X a (LE X.K Ξ (aW P ma)))(mW:Gl X "sorted")(pz:X.mg "sorted"=none)(hg:Gl X "set")(hm:X.mg "set"=none)(hs:starEach [a] X.env=[(false,eval a X.env)]) :
  PE X (.Call (.Name "sorted" p2) [.Call (.Name "set" q) [a] [] pos] [] jG) (LE X.K Ξ (aW P (.prim .sset (.cons ma .nil)))) :=
 (zN (LZ hc) mW pz (by rfl) (Z9 (X5 (LL hc) hg hm (by rfl) (F4 hP ha (M9 hP) (by rw[hs];rfl)) ∅ ∅ (by rw[hs];rfl) rfl) uG)).imp λcq H Q bp=>by
  let#[Z,g,ρ,s,R,h]:=bp;refine jE hP s R (.refl _ _) h λxs g1 cc H1 vs e1 R1 r1 h=>?_;let#[d',g',#[i,ns,rfl,hl,hz,rfl,rfl],q]:=h;let#[v,rfl,rv]:=r1.one;let#[a',rfl,ra]:=rv.j6;let#[ws,hq,rs]:=R1.items hl ra;obtain rfl:=rs.ints;refine#[_,ns,rfl,hq,hz,λq' mT=>#[q',ns,rfl,k6,hz,λp hp=>?_]];exact(q.ext (e1.trans (A4 mT))).new (R1.grow mT) hp (c8.ofInts _)
def TH(hc:X.calm=true)(ha:PE X a (LE X.K Ξ (aW P ma)))(mW:Gl X "len")(pz:X.mg "len"=none)(hg:Gl X "set")(hm:X.mg "set"=none)(hs:starEach [a] X.env=[(false,eval a X.env)]) :
  PE X (.Call (.Name "len" p2) [.Call (.Name "set" q) [a] [] pos] [] jG) (LE X.K Ξ (aW P (.prim .nB (.cons ma .nil)))) :=
 (zN aH3 mW pz PySem.boot_len (Z9 (X5 (LL hc) hg hm (by rfl) (F4 hP ha (M9 hP) (by rw[hs];rfl)) ∅ ∅ (by rw[hs];rfl) rfl) uG)).imp λcq H Q bp=>by
  let#[Z,g,ρ,s,R,h]:=bp;refine jE hP s R (.refl _ _) h λxs g1 cc H1 vs e1 R1 r1 h=>?_;let#[d',g',#[i,ns,rfl,hl,hz,rfl,rfl],q]:=h;let#[v,rfl,rv]:=r1.one;let#[a',rfl,ra]:=rv.j6;let#[ws,hq,rs]:=R1.items hl ra;obtain rfl:=rs.ints;refine#[_,ns,rfl,hq,by omega,λq' mT=>#[q',_,rfl,k6,?_]];exact(q.ext (e1.trans (A4 mT))).now (R1.grow mT) (.int _)
def TK{i}{j}(mY:PySem.W.kdsCode X.K X.env.code=true):PE X (.Set [.Constant (.int i) j q] 0 pos) (LE X.K Ξ (aW P (.prim (.jZ i) .nil))) :=
 (Tf mY).imp λcq H Q bp=>by
  let#[Z,g,ρ,s,R,h]:=bp;let#[d',g',#[_,rfl,rfl],q]:=h;exact λp hp=>q (ρ++[p]) _ _ (B0 hp) (R.new hp (o:=.set (λk=>decide (k=i)) 1) (u:=.set (λk=>decide (k=i)) 1) #[rfl,rfl]) (.ref (R.v9 p))
def bJ7{f}(ha:PE X a (LE X.K Ξ (aW P ma)))(hb:attributeBase a f X.env (eval a X.env)=eval a X.env):PE X (.Attribute a f pos) (LE X.K Ξ (aW P (.prim (.fld f) (.cons ma .nil)))) :=
 (ZC ha hb).imp λcq H Q bp=>by
  let#[Z,g,ρ,s,R,h]:=bp;refine ft hP s R (.refl _ _) h λx g1 cc H1 v1 e1 R1 r1 h=>?_;let#[d',g',#[i,c,fs,ex,hi,hf,rfl],q]:=h;cases ex;let#[a',rfl,ra]:=r1.j6;let#[C,dx,vs,hH,_,hC,rk,na]:=R1.ins hi ra;have lk:=rk.look f;rw[hf] at lk;let#[v,hv,rv]:=lk.some;exact#[a',C,dx,vs,v,rfl,hH,hC,na _ (aO hf),hv,q cc H1 v e1 R1 rv]
end
section
variable{X:Cx}{pos:Pos}
def bJ3{i}{x}(hN:X.N[i]?=some x)(hv:xZ X.env.scope x)(hd:(x==("__debug__":Str))=false)(lP:(x==("__classdict__":Str))=false):PE X (.Name x pos) (LE X.K Ξ (aW P (.var i))) :=
 (Oy hN hv hd lP).imp λcq H Q bp=>by
  let#[Z,g,ρ,s,R,h]:=bp;let#[d,e,h]:=h;let#[v,h1,h2]:=s.val _ _ e;exact#[v,h1,h.now R h2]
def uH{e}{d}{v}(h:PE X e (tC v))(r:∀ρ H,f7 X.K ρ H d v):PE X e (LE X.K Ξ (aW P (.lit d))) :=
 h.imp λcq H Q bp=>by
  let#[Z,g,ρ,s,R,h]:=bp;exact LQ.now h R (r ρ H)
def Tx:PE X (.Dict [] [] pos) (LE X.K Ξ (aW P (.prim .Y5 .nil))) :=
 (Vr (X:=X)).imp λcq H Q ⟨Z,g,ρ,s,R,h⟩ p hp=>by
  let#[d',g',#[_,rfl,rfl],q]:=h;exact q (ρ++[p]) _ _ (B0 hp) (R.new hp (o:=.cg []) (u:=.dK []) i9.nil) (.ref (R.v9 p))
end
end M
namespace L2
open PySem PySem.Spec PyProof.Rows
section
variable{X:Cx}{m:Str}{pos apos:Pos}{e o:Expr}{es:List Expr}{ta:TE}{t:TA}
abbrev bH1(X:Cx)(m:Str)(E:XK)(ta:TE)(t:TA):TE:=λZ H Q=>ta Z H λx H1=>∃a C dx fs f fd ps k sp,x=.ref a/\H1 a=some (.ins C dx fs)/\fs.lookup m=none/\je X.K C/\Meth X.K C m f /\
 gH X.prog X.w X.K X.mg X.base (gY X.prog X.w) k f fd ps sp/\w6 k X.A/\Binds X.K fd ps []/\t Z H1 λvs H2=>sp (x::(vs++[])) H2 Q E
def Vv{pl}{E}(he:PE X o ta)(hx:Passes (gY X.prog X.w) X E)(ha:PA X (e::es) t)(fA:starEach (e::es) X.env=(false,eval e X.env)::starEach es X.env)(gC:(backTo pos (starEach es X.env)).any (·.1)=false)(ht:eval (.Call (.Attribute o m apos) (e :: es) [] pos) X.env=(do
   let ov <- eval o X.env
   standAt apos.atName
   let (f,first) <- holding [ov] (getMethod ov m pl)
   callWith pos f first (backTo pos (starEach (e :: es) X.env)) (backToKw pos (keywordEach [] X.env)))) :
  PE X (.Call (.Attribute o m apos) (e::es) [] pos) (bH1 X m E ta t):=by
 intro pi s Z H Q I h;refine yk (pl:=pl) (cE (he pi s Z H _ I h) λu s1 bp=>?_) ht;let#[x,H1,I1,rx,a,C,dx,fs,f,fd,ps,k,sp,ex,ea,l,c,hm,F,hr,hb,q]:=bp;subst ex;obtain rfl:u=Value.ref a:=rx;refine KZ I1 ea c hm l ?_;refine jV (first:=[.ref a]) (h₀:=X.base) I.ok.mod.mP hm.kp (cE (ha pos pi s1 Z H1 _ I1 q) ?_) fA gC;rintro us s2 ⟨vs,H2,I2,r,q2⟩;refine #[I2.gA,?_];exact zo (us:=.ref a::us) (vs:=.ref a::vs) F hr hb .nil hx I2 (.cons rfl r) q2
abbrev Ui(X:Cx)(m:Str)(E:XK)(ta:TE):TE:=λZ H Q=>ta Z H λx H1=>∃a C dx fs f fd ps k sp,x=.ref a/\H1 a=some (.ins C dx fs)/\fs.lookup m=none/\je X.K C/\Meth X.K C m f /\
 gH X.prog X.w X.K X.mg X.base (gY X.prog X.w) k f fd ps sp/\w6 k X.A/\Binds X.K fd ps []/\sp [x] H1 Q E
def a94{pl}{E}(he:PE X o ta)(hx:Passes (gY X.prog X.w) X E)(ht:eval (.Call (.Attribute o m apos) [] [] pos) X.env=(do
   let ov <- eval o X.env
   standAt apos.atName
   let (f,first) <- holding [ov] (getMethod ov m pl)
   callWith pos f first (backTo pos (starEach [] X.env)) (backToKw pos (keywordEach [] X.env)))) :
  PE X (.Call (.Attribute o m apos) [] [] pos) (Ui X m E ta):=by
 intro pi s Z H Q I h;refine yk (pl:=pl) (cE (he pi s Z H _ I h) λu s1 bp=>?_) ht;let#[x,H1,I1,rx,a,C,dx,fs,f,fd,ps,k,sp,ex,ea,l,c,hm,F,hr,hb,q]:=bp;subst ex;obtain rfl:u=Value.ref a:=rx;refine KZ I1 ea c hm l ?_;exact jB (first:=[.ref a]) I1.gA hm.kp (zo (us:=[.ref a]) (vs:=[.ref a]) (dvs:=[]) F hr hb .nil hx I1 (.cons rfl .nil) q)
end
end L2
namespace M
open PySem L2 PySem.Spec PyProof.Rows
variable{K:PySem.W.Frag}{H H0:Hp}{a fa C:Addr}{x:Str}{p:Pos}{k f j:Nat}{fd:FuncData}{ps:List Str}{fW:List Addr}{xs:List D}{vs:List V}{es:List Expr}{e:Expr}{gN:ME}
inductive qL(K:PySem.W.Frag):List D->List (Str×V)->Prop
 |nil:qL K [] []
 |cons {x:Str} {d:D} {v:V} {ds:List D} {vs:List (Str×V)} (h:∀ρ H,f7 K ρ H d v) (r:qL K ds vs):qL K (.tup [.str x,d]::ds) ((x,v)::vs)
def qL.look{ρ}{ds vs}(x:Str)(h:qL K ds vs):sX K ρ H (V9 ds x) (vs.lookup x):=by
 induction h with
 |nil=>trivial
 |cons h r ih =>
  rename_i y d v ds vs;unfold V9;rw[dC];by_cases e:x=y
  ·rw[aH e,show(x==y)=true from by simp[e]];exact h ρ H
  ·rw[az e,show(x==y)=false from by simpa using e];exact ih
abbrev Jc(X:Cx)(x:Str)(kvs:List D):Prop:=∃A vs,X.mg x=some (.ref A)/\Ab X.K X.w.params A vs/\qL X.K kvs vs
section
variable{X:Cx}{Ξ:ie}{P:fb}(hP:j8 P){a c:Expr}{ma:ME}{pos:Pos}
include hP
def Tz{kvs}(hg:Gl X x)(hd:(x==("__debug__":Str))=false)(hG:Jc X x kvs)(ha:PE X a (LE X.K Ξ (aW P ma)))(hs:Gb a):PE X (.Subscript (.Name x p) a pos) (LE X.K Ξ (aW P (.prim .nk (.cons (.lit (.tup kvs)) (.cons ma .nil))))):=by
 let#[A,vs,hmg,hk,gr]:=hG;refine(JA (b02 (kvs:=vs)) (MC (v:=.ref A) hg hmg rfl hd) ha hs).imp λcq H Q bp=>?_;let#[Z,g,ρ,s,R,h]:=bp;refine ft hP s R (.refl _ _) h λd g1 cc H1 v1 e1 R1 r1 h=>?_;let#[d',g',#[Qw,z,ex,hz,rfl],q]:=h;cases ex;obtain rfl:=r1.FO;have lk:=gr.look (ρ:=cc) (H:=H1) z;rw[hz] at lk;let#[w,hw,lk]:=lk.some;exact#[A,z,w,rfl,hk,rfl,hw,q cc H1 _ e1 R1 lk]
omit hP in
abbrev qk(ex:List Str)(K:PySem.W.Frag)(n:Nat)(t:List D->G->KD->KX->Prop):Sp:=λvs H Q E=>vs.length=n/\∃ds g ρ,c8 K ρ H ds vs/\Rl K ρ g H/\t ds g (LQ K ρ H Q) (LX K ρ H (ex,E))
omit hP in
abbrev oI(X:Cx)(P:fb)(ex:List Str)(k f:Nat)(fa:Addr)(fd:FuncData)(ps:List Str):Prop :=
 gH X.prog X.w X.K X.mg X.base (gY X.prog X.w) k fa fd ps (qk ex X.K ps.length (P f))/\Binds X.K fd ps []/\∀ds g Q E,P f ds g Q E->ds.length=ps.length
def xo{k}(F:oI X P Ξ.1 k f fa fd ps){ρ}{g}{Q0}{Q}(e0:Ext fW H0 ρ H)(R:Rl X.K ρ g H)(r:c8 X.K ρ H xs vs)(h:P f xs g Q0 (LX X.K fW H0 Ξ))(k:∀d g',Q0 d g'->LQ X.K ρ H Q d g'):qk Ξ.1 X.K ps.length (P f) (vs++[]) H Q Ξ.2:=by
 rw[fQ];exact#[by rw[<- r.length];exact F.2.2 _ _ _ _ h,xs,g,ρ,r,R,hP _ _ _ _ _ _ _ k (λ_ _ z=>LX.ext e0 z) h]
def Tv(hx:Passes (gY X.prog X.w) X Ξ.2)(F:oI X P Ξ.1 k f fa fd ps)(hr:w6 k X.A)(hg:Gl X x)(hm:X.mg x=some (.ref fa))(hk:PySem.W.keepIn X.K (.ref fa)=true)(ha:PA X (e::es) (LA X.K Ξ (fJ P gN)))(hd:(x==("__debug__":Str))=false)(fA:starEach (e::es) X.env=(false,eval e X.env)::starEach es X.env)(gC:(backTo pos (starEach es X.env)).any (·.1)=false):PE X (.Call (.Name x p) (e::es) [] pos) (LE X.K Ξ (aW P (.call f gN))) :=
 (bA4 F.1 hr hg hm hk F.2.1 .nil hx ha hd fA gC).imp λcq H Q bp=>by
  let#[Z,g,ρ,s,R,h]:=bp;exact jE hP s R (.refl _ _) h λxs g1 cc H1 vs e1 R1 r1 h=>xo hP F e1 R1 r1 h λd g' h=>h.ext e1
def VN(hx:Passes (gY X.prog X.w) X Ξ.2)(F:oI X P Ξ.1 k f fa fd ps)(hr:w6 k X.A)(hg:Gl X x)(hm:X.mg x=some (.ref fa))(hk:PySem.W.keepIn X.K (.ref fa)=true)(hd:(x==("__debug__":Str))=false):PE X (.Call (.Name x p) [] [] pos) (LE X.K Ξ (aW P (.call f .nil))) :=
 (Vp F.1 hr hg hm hk F.2.1 .nil hx hd).imp λcq H Q bp=>by
  let#[Z,g,ρ,s,R,h]:=bp;exact xo hP F (.refl _ _) R .nil h λd g' h=>h
def Mu{c}(F:oI X P Ξ.1 k f fa fd ps)(hC:v5 X.K c C)(hc:je X.K C){ρ}{g1}{Q}(e0:Ext fW H0 ρ H)(R:Rl X.K ρ g1 H)(r:c8 X.K ρ H xs vs)(h:P f (.ref g1.length::xs) (g1++[.ins c []]) (λd g2=>d=.br/\LQ X.K fW H0 Q (.ref g1.length) g2) (LX X.K fW H0 Ξ)):∀x dx,H x=none->H dx=none->dx≠x->qk Ξ.1 X.K ps.length (P f) (.ref x::(vs++[])) (upd (upd H dx (.own x)) x (.ins C dx [])) (λv H2=>v=.br/\Q (.ref x) H2) Ξ.2:=by
 intro x dx hx Ii fM;have HM:upd H dx (.own x) x=none:=by rw[d0 (aZ fM)];exact hx
 have R2:=R.grow (o:=.own x) Ii;have e2:Ext ρ H ρ (upd H dx (.own x)):=A4 Ii;have R3:=R2.new (o:=.ins c []) (u:=.ins C dx []) HM #[hC,hc,.nil,λx hx=>absurd hx #[_]];have e3:Ext ρ (upd H dx (.own x)) (ρ++[x]) (upd (upd H dx (.own x)) x (.ins C dx [])):=B0 HM;have:=xo hP F (e0.trans (e2.trans e3)) R3 (.cons (.ref (R.v9 x)) (r.ext (e2.trans e3))) h (Q:=λv H2=>v=.br/\Q (.ref x) H2) λd g' q bT H' v e' R' r'=>by
  let#[rfl,q]:=q;exact#[r'.zm,q bT H' _ (e0.trans (e2.trans (e3.trans e'))) R' (.ref (e'.get (R.v9 x)))]
 exact this
def TJ(hx:Passes (gY X.prog X.w) X Ξ.2)(F:oI X P Ξ.1 k f fa fd ps)(M:Mk X.K C fa)(hC:v5 X.K x C)(hc:je X.K C)(hr:w6 (k+1) X.A)(hg:Gl X x)(hm:X.mg x=some (.ref C))(ha:PA X (e::es) (LA X.K Ξ (fJ P gN)))(hd:(x==("__debug__":Str))=false)(fA:starEach (e::es) X.env=(false,eval e X.env)::starEach es X.env)(gC:(backTo pos (starEach es X.env)).any (·.1)=false):PE X (.Call (.Name x p) (e::es) [] pos) (LE X.K Ξ (aW P (.make x f gN))) :=
 (bA1 M F.1 hr hg hm F.2.1 .nil hx ha hd fA gC).imp λcq H Q bp=>by
  let#[Z,g,ρ,s,R,h]:=bp;exact jE hP s R (.refl _ _) h λxs g1 cc H1 vs e1 R1 r1 h=>Mu hP F hC hc e1 R1 r1 h
def VS(hx:Passes (gY X.prog X.w) X Ξ.2)(F:oI X P Ξ.1 k f fa fd ps)(M:Mk X.K C fa)(hC:v5 X.K x C)(hc:je X.K C)(hr:w6 (k+1) X.A)(hg:Gl X x)(hm:X.mg x=some (.ref C))(hd:(x==("__debug__":Str))=false):PE X (.Call (.Name x p) [] [] pos) (LE X.K Ξ (aW P (.make x f .nil))) :=
 (Vu M F.1 hr hg hm F.2.1 .nil hx hd).imp λcq H Q bp=>by
  let#[Z,g,ρ,s,R,h]:=bp;exact Mu hP F hC hc (.refl _ _) R .nil h
omit hP in
abbrev Ga(X:Cx)(P:fb)(ex:List Str)(m:Str)(cs:List (Str×Nat)):Prop:=∀c f C,cs.lookup c=some f->v5 X.K c C->∃k fa fd ps,Meth X.K C m fa/\oI X P ex k f fa fd ps/\w6 k X.A
def VU{m}{cs}{o}{mo}{apos}{pl}(hx:Passes (gY X.prog X.w) X Ξ.2)(hM:Ga X P Ξ.1 m cs)(ho:PE X o (LE X.K Ξ (aW P mo)))(ha:PA X (e::es) (LA X.K Ξ (fJ P gN)))(fA:starEach (e::es) X.env=(false,eval e X.env)::starEach es X.env)(gC:(backTo pos (starEach es X.env)).any (·.1)=false)(ht:eval (.Call (.Attribute o m apos) (e :: es) [] pos) X.env=(do
   let ov <- eval o X.env
   standAt apos.atName
   let (f,first) <- holding [ov] (getMethod ov m pl)
   callWith pos f first (backTo pos (starEach (e :: es) X.env)) (backToKw pos (keywordEach [] X.env)))):PE X (.Call (.Attribute o m apos) (e :: es) [] pos) (LE X.K Ξ (aW P (.bK m cs mo gN))) :=
 (Vv ho hx ha fA gC ht).imp λcq H Q bp=>by
  let#[Z,g,ρ,s,R,h]:=bp;refine ft hP s R (.refl _ _) h λx g1 cc H1 v1 e1 R1 r1 h=>?_;let#[i,c,fs,f,rfl,hi,hf,nY,h]:=h;let#[a',rfl,ra]:=r1.j6;let#[C,dx,vs,hH,hC,jq,rk,na]:=R1.ins hi ra;let#[k,fa,fd,ps,M,F,hr]:=hM c f C nY hC;have lk:=rk.look m;rw[hf] at lk;have hl:vs.lookup m=none:=by cases e:vs.lookup m with|none=>rfl|some w=>rw[e] at lk;exact lk.elim
  refine#[a',C,dx,vs,fa,fd,ps,k,_,rfl,hH,hl,jq,M,F.1,hr,F.2.1,?_];exact jE hP (s.ext e1) R1 e1 h λxs g2 eR H2 ws e2 R2 r2 h=>xo hP F (e1.trans e2) R2 (.cons (.ref (e2.get ra)) r2) h λd g' h=>h.ext (e1.trans e2)
def a76{m}{cs}{o}{mo}{apos}{pl}(hx:Passes (gY X.prog X.w) X Ξ.2)(hM:Ga X P Ξ.1 m cs)(ho:PE X o (LE X.K Ξ (aW P mo)))(ht:eval (.Call (.Attribute o m apos) [] [] pos) X.env=(do
   let ov <- eval o X.env
   standAt apos.atName
   let (f,first) <- holding [ov] (getMethod ov m pl)
   callWith pos f first (backTo pos (starEach [] X.env)) (backToKw pos (keywordEach [] X.env)))):PE X (.Call (.Attribute o m apos) [] [] pos) (LE X.K Ξ (aW P (.bK m cs mo .nil))) :=
 (a94 ho hx ht).imp λcq H Q bp=>by
  let#[Z,g,ρ,s,R,h]:=bp;refine ft hP s R (.refl _ _) h λx g1 cc H1 v1 e1 R1 r1 h=>?_;let#[i,c,fs,f,rfl,hi,hf,nY,h]:=h;let#[a',rfl,ra]:=r1.j6;let#[C,dx,vs,hH,hC,jq,rk,na]:=R1.ins hi ra;let#[k,fa,fd,ps,M,F,hr]:=hM c f C nY hC;have lk:=rk.look m;rw[hf] at lk;have hl:vs.lookup m=none:=by cases e:vs.lookup m with|none=>rfl|some w=>rw[e] at lk;exact lk.elim
  exact#[a',C,dx,vs,fa,fd,ps,k,_,rfl,hH,hl,jq,M,F.1,hr,F.2.1,xo hP F e1 R1 (.cons (.ref ra) .nil) h λd g' h=>h.ext e1]
end
inductive kl(K:PySem.W.Frag)(ρ:List Addr)(H:Hp):List D->List (V×V)->Prop
 |nil:kl K ρ H [] []
 |cons {k d:D} {x y:V} {ds:List D} {ps:List (V×V)} (h1:f7 K ρ H k x) (h2:f7 K ρ H d y) (r:kl K ρ H ds ps):kl K ρ H (k::d::ds) ((x,y)::ps)
def YN{K ρ H}{ps}(r:kl K ρ H xs ps):∀{acc kvs:List (Key×D)} {accV:List (Key×V)},uP xs acc=some kvs->i9 K ρ H acc accV->∃more:List (Key×V),ps=more.map (λkv=>(kV kv.1,kv.2))/\2*more.length=xs.length/\i9 K ρ H kvs (tF accV more):=by
 induction r with
 |nil =>
  intro acc kvs accV h ra;cases h;exact#[[],rfl,rfl,ra]
 |cons h1 h2 r ih =>
  rename_i k d x y ds ps;intro acc kvs accV h ra;simp only[uP] at h;cases hk:nA k with
  |none=>simp_all
  |some c =>
   rw[hk] at h;let#[more,e1,e2,r2]:=ih (show uP ds (putD acc c d)=some kvs from h) (ra.put h2);have ex:=U7 hk h1;refine#[(c,y)::more,by simp_all,by grind,r2]
section
variable{X:Cx}{Ξ:ie}{P:fb}(hP:j8 P){pos:Pos}
inductive mz(X:Cx)(Ξ:ie)(P:fb):List (Option Expr)->List Expr->ME->List (TE×TE)->Prop
 |nil:mz X Ξ P [] [] .nil []
 |cons {k v:Expr} {ks:List (Option Expr)} {vs:List Expr} {mk mv ms:ME} {iq:List (TE×TE)} (hk:PE X k (LE X.K Ξ (aW P mk))) (hv:PE X v (LE X.K Ξ (aW P mv))) (r:mz X Ξ P ks vs ms iq) :
   mz X Ξ P (some k::ks) (v::vs) (.cons mk (.cons mv ms)) ((LE X.K Ξ (aW P mk),LE X.K Ξ (aW P mv))::iq)
def mz.Qk{ks vs ms iq}(h:mz X Ξ P ks vs ms iq):yc X pos ks vs iq:=by
 induction h with
 |nil=>exact Ti
 |cons hk hv r ih=>exact VC hk hv ih
def mz.len{ks vs ms iq}(h:mz X Ξ P ks vs ms iq):ks.all (·.isSome)=true/\ks.length=vs.length:=by
 induction h with
 |nil=>exact#[rfl,rfl]
 |cons hk hv r ih=>exact#[by simpa using ih.1,by simp[ih.2]]
include hP
def mz.pairs{ks vs ms iq}(hd:mz X Ξ P ks vs ms iq):∀{cq:L2.St} {Z:S} {g:G} {ρ fW:List Addr} {H H0:Hp} {Qd:List D->G->Prop} {Q:List (V×V)->Hp->Prop},u1 X.K ρ H Z cq->Rl X.K ρ g H->Ext fW H0 ρ H->fJ P ms Z g Qd (LX X.K fW H0 Ξ) ->
  (∀ds g' bT H' ps,Ext ρ H bT H'->Rl X.K bT g' H'->kl X.K bT H' ds ps->Qd ds g'->Q ps H')->zp iq cq H Q:=by
 induction hd with
 |nil =>
  intro cq Z g ρ fW H H0 Qd Q s R e0 h k;exact k [] g ρ H [] (.refl _ _) R .nil h
 |cons hk hv r ih =>
  intro cq Z g ρ fW H H0 Qd Q s R e0 h k;refine ft hP s R e0 h λx g1 cc H1 v1 e1 R1 r1 h=>ft hP (s.ext e1) R1 (e0.trans e1) h λy g2 eR H2 v2 e2 R2 r2 h=>?_;refine ih (s.ext (e1.trans e2)) R2 (e0.trans (e1.trans e2)) h λds g' bT H' ps e' R' rp hq=>?_;exact k _ g' bT H' _ (e1.trans (e2.trans e')) R' (.cons (r1.ext (e2.trans e')) (r2.ext e') rp) hq
def bJ8{ks}{vs}{ms}{iq}(hd:mz X Ξ P ks vs ms iq)(h0:ks≠[])(qy:ks.length<=15):PE X (.Dict ks vs pos) (LE X.K Ξ (aW P (.oo ms))) :=
 (bA2 hd.Qk hd.len.1 hd.len.2 h0 qy).imp λcq H Q ⟨Z,g,ρ,s,R,h⟩ p hp=>by
  have e1:Ext ρ H (ρ++[p]) (upd H p (.dK [])):=B0 hp;refine mz.pairs hP hd (s.ext e1) (R.new hp (o:=.cg []) (u:=.dK []) i9.nil) e1 h λds g2 eR H2 ps e2 R2 rp hq=>?_;let#[kvs,hk,hz,hg,q]:=hq;have qr:eR[g.length]?=some p:=e2.get (R.v9 p);let#[vs',hv,rv]:=R2.cg hg qr;cases rv;let#[more,em,hl,rk]:=YN rp hk (accV:=[]) .nil;refine#[hv,more,em,by omega,?_];let#[R3,e3]:=R2.put (o':=.cg kvs) (u:=.dK (tF [] more)) hg rfl qr rk;exact q eR _ _ (e1.trans (e2.trans e3)) R3 (.ref qr)
end
def Xm{l}(ht:TupAt K H0 a vs)(rs:c8 K fW H0 l vs):ou K fW H0 (.fix l) (GP K a):=by
 intro ρ g H e R i;have vR:=ht.ext e;have Hv:=rs.ext e;refine#[λh=>#[vs,vR.sq,?_],λd h=>?_]
 ·have:=dc.mp (aG h);rw[<- Hv.length];exact this
 ·let#[v,hv,rv]:=Hv.get (aG h);refine#[#[vs,v,vR.sq,hv],λw H' y=>?_];let#[rfl,y]:=y;have:=y vs vR.sq;rw[hv] at this;cases this;exact#[.refl _ _,R,rv]
def Xk(ha:fW[j]?=some a):ou K fW H0 (.lst j) (GQ K a):=by
 intro ρ g H e R i;have lQ:=e.get ha;refine#[λh=>?_,λd h=>?_]
 ·simp only[IK.at] at h;cases el:d7 g j with
  |none=>simp_all
  |some l =>
   rw[el] at h;let#[vs,hq,rs]:=R.items el lQ;refine#[vs,hq,?_];have:=dc.mp (aG h);rw[<- rs.length];exact this
 ·simp only[IK.at] at h;cases el:d7 g j with
  |none=>simp_all
  |some l =>
   rw[el] at h;let#[vs,hq,rs]:=R.items el lQ;let#[v,hv,rv]:=rs.get (aG h);refine#[#[vs,v,hq,hv],λw H' y=>?_];let#[rfl,y]:=y;have:=y vs hq;rw[hv] at this;cases this;exact#[.refl _ _,R,rv]
def Ju{lo}{n}:ou K fW H0 (.fix (E0 lo n)) (yg lo n):=by
 unfold E0;intro ρ g H e R i;refine#[λh=>?_,λd h=>?_]
 ·have:=dc.mp (aG h);change n<=i;simpa using this
 ·have h:=aG h;have hi:i<n:=by
   have:=(aw.mp h).1
   simp_all
  rw[ah,eG hi] at h;cases h;refine#[hi,λw H' y=>?_];let#[rfl,rfl]:=y;exact#[.refl _ _,R,.int _]
def Xl{n}(ha:fW[j]?=some a):ou K fW H0 (.tS j n) (GO K a n):=by
 intro ρ g H e R i;have lQ:=e.get ha;refine#[λh=>?_,λd h=>?_]
 ·simp only[IK.at] at h;cases el:d7 g j with
  |none=>simp_all
  |some l =>
   rw[el] at h;dsimp only at h;by_cases hl:l.length=n
   ·rw[aH hl] at h;have h:=aG h;by_cases hi:i<n
    ·rw[aH hi] at h;have:=dc.mp h;omega
    ·exact Nat.le_of_not_lt hi
   simp_all
 ·simp only[IK.at] at h;cases el:d7 g j with
  |none=>simp_all
  |some l =>
   rw[el] at h;dsimp only at h;by_cases hl:l.length=n
   ·rw[aH hl] at h;have h:=aG h;by_cases hi:i<n
    ·rw[aH hi] at h;let#[vs,hq,rs]:=R.items el lQ;let#[v,hv,rv]:=rs.get h;refine#[#[vs,v,hq,by rw[<- rs.length];exact hl,hi,hv],λw H' y=>?_];let#[rfl,y]:=y;have:=y vs hq;rw[hv] at this;cases this;exact#[.refl _ _,R,rv]
    ·rw[az hi] at h;cases h
   simp_all
def b00(ha:fW[j]?=some a):ou K fW H0 (.pI j) (GR K a):=by
 intro ρ g H e R i;have lQ:=e.get ha;refine#[λh=>?_,λd h=>?_]
 ·simp only[IK.at] at h;cases el:d7 g j with
  |none=>rw[el] at h;cases h
  |some l =>
   rw[el] at h;let#[vs,hq,rs]:=R.items el lQ;refine#[vs,hq,?_];have h:=aG h;rw[Option.map_eq_none_iff] at h;have:=dc.mp h;rw[<- rs.length];exact this
 ·simp only[IK.at] at h;cases el:d7 g j with
  |none=>simp_all
  |some l =>
   rw[el] at h;let#[vs,hq,rs]:=R.items el lQ;have h:=aG h;rw[aa] at h;let#[d',hd,rfl]:=h;let#[v,hv,rv]:=rs.get hd;refine#[#[vs,v,hq,hv],λw H' y=>?_];let#[p,x,hp,rfl,y,rfl]:=y;have:=y vs hq;rw[hv] at this;cases this;exact#[A4 hp,R.grow hp,.tup (.inl k6) (.cons (.int _) (.cons (rv.ext (A4 hp)) .nil))]
end M
namespace L2
open PySem PySem.Spec PyProof.Rows
def ZM{X}{tg l}{tl}(hl:PE X l tl):PI X tg l (λZ H R=>tl Z H λx H1=>(∃a,x=.ref a/\(∃xs,fq X.K H1 a xs)/\R (GQ X.K a) H1)\/(∃a,x=.ref a/\(∃xs,ig X.K H1 a xs)/\R (GP X.K a) H1)):=by
 intro pi s Z H R I h;refine cE (hl pi s Z H _ I h) λv s1 bp=>?_;let#[x,H1,I1,r1,q1]:=bp;rcases q1 with⟨a,e,⟨xs,hq⟩,q⟩|⟨a,e,⟨xs,hq⟩,q⟩
 ·subst e;cases r1;let#[aU,rv,p,hz]:=I1.list hq;refine iJ p.isList ?_;refine#[s1⁻¹,[s1⁻¹],_,_,H1,rfl,I1.kept (t':=s1.toks) λb o e=>aj _ e,a59 a _,#[_,aB _ rfl,rfl,rfl],λb hb=>?_,q];have e:b=s1⁻¹:=by simpa using hb
  subst e;exact I1.oz (av _) (I1.bJ.fresh (av _))
 ·subst e;cases r1;let#[aU,rv,p,hz]:=I1.tuple hq;refine wpAny_pyIter_tuple (show s1.heap.IsTuple a aU.toArray from p) ?_;refine#[s1⁻¹,[s1⁻¹],_,_,H1,rfl,I1.kept (t':=s1.toks) λb o e=>aj _ e,aZ3 a _,#[_,aB _ rfl,rfl,rfl],λb hb=>?_,q];have e:b=s1⁻¹:=by simpa using hb
  subst e;exact I1.oz (av _) (I1.bJ.fresh (av _))
end L2
namespace M
open PySem L2 PySem.Spec PyProof.Rows
variable{X:Cx}{tg o:Expr}{pos p tp:Pos}{i:Nat}{x f:Str}{t:MT}{mo mi:ME}{cs:List Str}
section
variable{Ξ:ie}{P:fb}(hP:j8 P){a b:Expr}{ma mb:ME}
include hP
def bI8(ha:PE X a (LE X.K Ξ (aW P ma))):PI X tg a (LI X.K Ξ (gE P (.eZ ma))) :=
 (ZM ha).imp λcq H R bp=>by
  let#[Z,g,ρ,s,Rr,h]:=bp;refine ft hP s Rr (.refl _ _) h λx g1 cc H1 v1 e1 R1 r1 h=>?_;rcases h with⟨l,rfl,h⟩|⟨i,l,rfl,hl,h⟩
  ·let#[a',vs,rfl,ht,rs]:=r1.K9;exact .inr #[_,rfl,#[_,ht.sq],h cc H1 _ e1 R1 (Xm ht rs)]
  ·let#[a',rfl,lQ]:=r1.j6;let#[vs,hq,rs]:=R1.items hl lQ;exact .inl #[_,rfl,#[_,hq],h cc H1 _ e1 R1 (Xk lQ)]
def TU{elts}{x1}(ha:PE X a (LE X.K Ξ (aW P ma)))(hg:Gl X "enumerate")(hm:X.mg "enumerate"=none)(hs:starEach [a] X.env=[(false,eval a X.env)]):PI X (.Tuple elts x1 tp) (.Call (.Name "enumerate" p) [a] [] pos) (LI X.K Ξ (gE P (.kL ma))) :=
 (MF hg hm (F4 hP ha (M9 hP) (by rw[hs];rfl)) hs).imp λcq H R bp=>by
  let#[Z,g,ρ,s,Rr,h]:=bp;refine jE hP (m:=.cons ma .nil) s Rr (.refl _ _) (Q0:=λxs g1=>∃a l,xs=[.ref a]/\d7 g1 a=some l/\∀bT H' J,Ext ρ H bT H'->Rl X.K bT g1 H'->ou X.K bT H' (.pI a) J->R J H') ?_ λxs g1 cc H1 vs e1 R1 r1 h=>?_
  ·exact c9 hP ma _ _ _ _ _ _ (by rintro x g1 ⟨i,l,e,hl,h⟩;exact #[i,l,by rw[e],hl,h]) (λ_ _ z=>z) h
  ·let#[j,l,rfl,hl,h]:=h;let#[v,rfl,rv]:=r1.one;let#[a',rfl,ra]:=rv.j6;let#[vs,hq,rs]:=R1.items hl ra;exact#[_,rfl,#[_,hq],h cc H1 _ e1 R1 (b00 ra)]
def bI9(ha:PE X a (LE X.K Ξ (aW P ma)))(hg:Gl X "reversed")(hm:X.mg "reversed"=none)(hs:starEach [a] X.env=[(false,eval a X.env)]):PI X tg (.Call (.Name "reversed" p) [a] [] pos) (LI X.K Ξ (gE P (.nP ma))) :=
 (ZL hg hm (F4 hP ha (M9 hP) (by rw[hs];rfl)) hs).imp λcq H R bp=>by
  let#[Z,g,ρ,s,Rr,h]:=bp;refine jE hP (m:=.cons ma .nil) s Rr (.refl _ _) (Q0:=λxs g1=>∃a l,xs=[.ref a]/\d7 g1 a=some l/\∀bT H' J,Ext ρ H bT H'->Rl X.K bT g1 H'->ou X.K bT H' (.tS a l.length) J->R J H') ?_ λxs g1 cc H1 vs e1 R1 r1 h=>?_
  ·exact c9 hP ma _ _ _ _ _ _ (by rintro x g1 ⟨i,l,e,hl,h⟩;exact #[i,l,by rw[e],hl,h]) (λ_ _ z=>z) h
  ·let#[j,l,rfl,hl,h]:=h;let#[v,rfl,rv]:=r1.one;let#[a',rfl,ra]:=rv.j6;let#[vs,hq,rs]:=R1.items hl ra;exact#[_,vs,rfl,hq,h cc H1 _ e1 R1 (by rw[rs.length];exact Xl ra)]
def TV(ha:PE X a (LE X.K Ξ (aW P ma)))(hg:Gl X "range")(hm:X.mg "range"=none)(hs:starEach [a] X.env=[(false,eval a X.env)]):PI X tg (.Call (.Name "range" p) [a] [] pos) (LI X.K Ξ (gE P (.fL ma))) :=
 (a89 hg hm (F4 hP ha (M9 hP) (by rw[hs];rfl)) hs).imp λcq H R bp=>by
  let#[Z,g,ρ,s,Rr,h]:=bp;refine jE hP (m:=.cons ma .nil) s Rr (.refl _ _) (Q0:=λxs g1=>∃j:Int,xs=[.int j]/\-(2 ^ 62)<=j/\j<2 ^ 62/\∀bT H' J,Ext ρ H bT H'->Rl X.K bT g1 H'->ou X.K bT H' (.fix (E0 0 j.toNat)) J->R J H') ?_ λxs g1 cc H1 vs e1 R1 r1 h=>?_
  ·exact c9 hP ma _ _ _ _ _ _ (by rintro x g1 ⟨j,e,h1,h2,h⟩;exact #[j,by rw[e],h1,h2,h]) (λ_ _ z=>z) h
  ·let#[j,rfl,h1,h2,h]:=h;let#[v,rfl,rv]:=r1.one;obtain rfl:=rv.m9;exact#[_,rfl,h1,h2,h cc H1 _ e1 R1 Ju]
def TX(ha:PE X a (LE X.K Ξ (aW P ma)))(hb:PE X b (LE X.K Ξ (aW P mb)))(hg:Gl X "range")(hm:X.mg "range"=none)(hs:starEach [a,b] X.env=[(false,eval a X.env),(false,eval b X.env)])(hJ:starEach [b] X.env=[(false,eval b X.env)]) :
  PI X tg (.Call (.Name "range" p) [a,b] [] pos) (LI X.K Ξ (gE P (.jo ma mb))) :=
 (a88 hg hm (F4 hP ha (F4 hP hb (M9 hP) (by rw[hJ];rfl)) (by rw[hs,hJ])) hs hJ).imp λcq H R bp=>by
  let#[Z,g,ρ,s,Rr,h]:=bp;refine jE hP (m:=.cons ma (.cons mb .nil)) s Rr (.refl _ _) (Q0:=λxs g1=>∃i j:Int,xs=[.int i,.int j]/\(-(2 ^ 62)<=i/\i<2 ^ 62/\-(2 ^ 62)<=j/\j<2 ^ 62)/\∀bT H' J,Ext ρ H bT H'->Rl X.K bT g1 H'->ou X.K bT H' (.fix (E0 i (j-i).toNat)) J->R J H') ?_ λxs g1 cc H1 vs e1 R1 r1 h=>?_
  ·exact c9 hP ma _ _ _ _ _ _ (λx g1 h=>c9 hP mb _ _ _ _ _ _ (by rintro y g2 ⟨i,j,e,e',h1,h⟩;exact #[i,j,by rw[e,e'],h1,h]) (λ_ _ z=>z) h) (λ_ _ z=>z) h
  ·let#[i,j,rfl,h1,h]:=h;let#[v,w,rfl,rv,fE]:=r1.two;obtain rfl:=rv.m9;obtain rfl:=fE.m9;exact#[_,_,rfl,h1,h cc H1 _ e1 R1 Ju]
end
def bJ0(hN:X.Nd)(hi:X.N[i]?=some x)(hx:Loc X.env.scope x)(hf:X.fn x=true\/X.env.scope.names.lookup x=some .local):PG X (.Name x pos) (LG X.K (.one i)) :=
 (MD hN hi hx hf).imp λv cq H Q hq=>by
  let#[d,Z,g,ρ,s,R,r,h]:=hq;exact h _ (s.set i r)
inductive fO(X:Cx):List Expr->List Nat->Prop
 |nil:fO X [] []
 |cons {x:Str} {p:Pos} {i:Nat} {es:List Expr} {is:List Nat} (hi:X.N[i]?=some x) (hx:Loc X.env.scope x) (hf:X.fn x=true\/X.env.scope.names.lookup x=some .local) (r:fO X es is):fO X (.Name x p::es) (i::is)
abbrev xA:List Nat->rf
 |[]=>Kk
 |i::is=>Jr (qR i) (xA is)
def EK(hN:X.Nd){es}{is}(h:fO X es is):yd X es (xA is):=by
 induction h with
 |nil=>exact Tg
 |cons hi hx hf r ih=>exact Vx (MD hN hi hx hf) ih rfl
def M8:∀{es:List Expr} {is:List Nat},fO X es is->(assignEach es X.env).length=is.length/\(assignEach es X.env).findIdx? (·.1)=none
 |_,_,.nil=>#[rfl,rfl]
 |_,_,.cons (x:=x) (p:=p) (es:=es) hi hx hf r=>by
  let#[h1,h2]:=M8 r;have e:assignEach (.Name x p::es) X.env=(false,assign (.Name x p) X.env)::assignEach es X.env:=rfl;rw[e];refine#[by simp[h1],?_];rw[List.findIdx?_cons,h2]
  rfl
def NW{K}{ρ}{H}{k:S->Prop}{Q:L2.St->Hp->Prop}:∀{is:List Nat} {l:List D} {vs:List V} {Z bV:S} {cq:L2.St},X4 is l Z=some bV->c8 K ρ H l vs->u1 K ρ H Z cq->(∀cQ,u1 K ρ H bV cQ->Q cQ H)->xA is vs cq H Q
 |[],_,_,_,_,_,h,.nil,s,q=>by
  cases h;exact#[rfl,q _ s]
 |[],_,_,_,_,_,h,.cons _ _,s,q=>by cases h
 |i::is,_,_,_,_,_,h,.nil,s,q=>by cases h
 |i::is,_,_,_,_,_,h,.cons r rr,s,q=>by
  exact#[_,_,rfl,NW (k:=k) h rr (s.set i r) q]
def Lh:∀{is:List Nat} {l:List D} {Z bV:S},X4 is l Z=some bV->l.length=is.length
 |[],[],_,_,_=>rfl
 |[],_::_,_,_,h=>by simp only[X4] at h;cases h
 |_::_,[],_,_,h=>by simp only[X4] at h;cases h
 |_::is,_::l,_,_,h=>by simp only[X4] at h;simp[Lh h]
def MU{es}{is}{k}(hc:X.calm=true)(hN:X.Nd)(hs:fO X es is):PG X (.Tuple es k pos) (LG X.K (.many is)) :=
 (FK hc (EK hN hs) (M8 hs).1 (M8 hs).2).imp λv cq H Q bp=>by
  let#[d,Z,g,ρ,s,R,r,h]:=bp;let#[l,bV,rfl,e,h]:=h;let#[a',vs,rfl,ht,rs]:=r.K9;exact#[_,_,rfl,ht.sq,by rw[<- rs.length];exact Lh e,NW (k:=λ_=>True) e rs s h]
def LN.ext{K ρ H N cc H1}(e:Ext ρ H cc H1):(LN K ρ H N).le (LN K cc H1 N) :=
 #[λZ g h bT H' cQ e' R s=>h bT H' cQ (e.trans e') R s,λd g h=>h.ext e,λZ g h bT H' cQ e' R s=>h bT H' cQ (e.trans e') R s,λZ g h bT H' cQ e' R s=>h bT H' cQ (e.trans e') R s]
section
variable{Ξ:ie}{P:fb}(hP:j8 P){a b c:Expr}{ma mb mc:ME}{st:Stmt}{rest:List Stmt}{Bs mI:MS}
include hP
def OD:jd X [] (LS X.K Ξ (wpS P .pass)) :=
 (Tp (X:=X)).imp (by rintro N cq H ⟨Z,g,ρ,s,R,h⟩;exact h ρ H cq (.refl _ _) R s)
def MV(h1:PS X st (LS X.K Ξ (wpS P Bs)))(h2:jd X rest (LS X.K Ξ (wpS P mI))):jd X (st::rest) (LS X.K Ξ (wpS P (.seq Bs mI))) :=
 (VF h1 h2).imp λN cq H ⟨Z,g,ρ,s,R,h⟩ =>
  tO hP s R (.refl _ _) (show wpS P Bs { LN X.K ρ H N with nx:=λiN g1=>wpS P mI (LN X.K ρ H N) iN g1 (LX X.K ρ H Ξ) } Z g (LX X.K ρ H Ξ) from h) #[λiN g1 h cc H1 Ph e1 R1 s1=>tO hP s1 R1 e1 h (LN.ext e1),λ_ _ z=>z,λ_ _ z=>z,λ_ _ z=>z]
def Ug(ha:PE X a (LE X.K Ξ (aW P ma)))(hs:swapsWith a none pos.line X.env=pure false):PS X (.Expr a pos) (LS X.K Ξ (wpS P (.expr ma))) :=
 (Tj ha hs).imp (by rintro N cq H ⟨Z,g,ρ,s,R,h⟩;exact ft hP s R (.refl _ _) h λx g1 cc H1 v1 e1 R1 r1 h=>h cc H1 cq e1 R1 (s.ext e1))
def OG(h0:PS X (.Assign [.Name x p] a pos) (uU (LE X.K Ξ (aW P ma)) (qR i))):PS X (.Assign [.Name x p] a pos) (LS X.K Ξ (wpS P (.set i ma))) :=
 h0.imp (by rintro N cq H ⟨Z,g,ρ,s,R,h⟩;exact ft hP s R (.refl _ _) h λx g1 cc H1 v1 e1 R1 r1 h=>h cc H1 _ e1 R1 ((s.ext e1).set i r1))
def bH4(h0:PS X (.Assign [tg] a pos) (uU (LE X.K Ξ (aW P ma)) (LG X.K t))):PS X (.Assign [tg] a pos) (LS X.K Ξ (wpS P (.nL t ma))) :=
 h0.imp (by rintro N cq H ⟨Z,g,ρ,s,R,h⟩;exact ft hP s R (.refl _ _) h λx g1 cc H1 v1 e1 R1 r1 h=>#[x,Z,g1,cc,s.ext e1,R1,r1,A8 (λbV h cQ s'=>h cc H1 cQ e1 R1 s') h])
def Wi(hu:X.A.units+100<cLine){i}(ha:PE X a (LE X.K Ξ (aW P ma)))(ho:PE X o (LE X.K Ξ (aW P mo)))(hi:PE X i (LE X.K Ξ (aW P mi)))(hs:swapsWithSole [.Subscript o i tp] a pos.line X.env=pure false)(lQ:∀ v,assign (.Subscript o i tp) X.env v=(do
   let ov <- holding [v] (eval o X.env)
   let iv <- holding [v,ov] (eval i X.env)
   standAt tp
   holding [v,ov,iv] (setItem ov iv v)
   release [v,ov,iv] [])):PS X (.Assign [.Subscript o i tp] a pos) (LS X.K Ξ (wpS P (.cS mo mi ma))) :=
 (Oz ha (ZK ho hi (bJ1 hu) lQ) hs).imp λN cq H ⟨Z,g,ρ,s,R,h⟩ =>
  ft hP s R (.refl _ _) h λx g1 cc H1 v1 e1 R1 r1 h=>ft hP (s.ext e1) R1 e1 h λy g2 eR H2 v2 e2 R2 r2 h=>ft hP (s.ext (e1.trans e2)) R2 (e1.trans e2) h λz g3 iT H3 v3 e3 R3 r3 h =>
   #[y,z,x,g3,iT,R3,r2.ext e3,r3,r1.ext (e2.trans e3),zY (λg4 h lL H4 e4 R4=>h lL H4 cq (e1.trans (e2.trans (e3.trans e4))) R4 (s.ext (e1.trans (e2.trans (e3.trans e4))))) h]
omit hP in
abbrev zg(K:PySem.W.Frag)(f:Str)(cs:List Str):Prop:=∀c C,c∈cs->v5 K c C->D9 K C f
omit hP in
def TR(hF:zg X.K f cs){ρ}{H}{g g'}{x v}{xv vv}(R:Rl X.K ρ g H)(rx:f7 X.K ρ H x xv)(rv:f7 X.K ρ H v vv)(h:JD f cs x v g g') :
  ∃a C dx fs,xv=.ref a/\H a=some (.ins C dx fs)/\je X.K C/\D9 X.K C f/\fs.length<1000/\Rl X.K ρ g' (upd H a (.ins C dx (y9 f vv fs)))/\Ext ρ H ρ (upd H a (.ins C dx (y9 f vv fs))):=by
 let#[i,c,fs,rfl,hi,hc,hz,rfl]:=h;let#[a',rfl,ra]:=rx.j6;let#[C,dx,vs,hH,hC,jq,rk,na]:=R.ins hi ra;let#[R',e']:=R.put (o':=.ins c (m7 f v fs)) (u:=.ins C dx (y9 f vv vs)) hi rfl ra #[hC,jq,rk.y9 rv,EX (p:=λy=>D9 X.K C y) (hF c C hc hC) na];exact#[a',C,dx,vs,rfl,hH,jq,hF c C hc hC,by rw[<- rk.length];omega,R',e']
def Uh(hF:zg X.K f cs)(ho:PE X o (LE X.K Ξ (aW P mo)))(ha:PE X a (LE X.K Ξ (aW P ma)))(hs:swapsWith a (some (.Attribute o f tp)) pos.line X.env=pure false):PS X (.Assign [.Attribute o f tp] a pos) (LS X.K Ξ (wpS P (.gi f cs mo ma))) :=
 (ZO ho ha hs).imp λN cq H ⟨Z,g,ρ,s,R,h⟩=>ft hP s R (.refl _ _) h λx g1 cc H1 v1 e1 R1 r1 h=>ft hP (s.ext e1) R1 e1 h λy g2 eR H2 v2 e2 R2 r2 h=>by
  let#[g3,h,q]:=h;let#[a',C,dx,fs,hx,hH,jq,na,hz,R3,e3]:=TR hF R2 r2 (r1.ext e2) h;exact#[a',C,dx,fs,hx,hH,jq,na,hz,q eR _ cq (e1.trans (e2.trans e3)) R3 (s.ext (e1.trans (e2.trans e3)))]
def Ud{op}{p}(BL:(op=.Add/\p=.iadd)\/(op=.Sub/\p=.rV))(hN:X.Nd)(hi:X.N[i]?=some x)(hx:Loc X.env.scope x)(hf:X.fn x=true\/X.env.scope.names.lookup x=some .local)(ha:PE X a (LE X.K Ξ (aW P ma))):PS X (.AugAssign (.Name x tp) op a pos) (LS X.K Ξ (wpS P (.kW i p ma))):=by
 have ho:OS X op (r2 X.K p):=by
  intro pi s Z H x y v u Q I rx ry h;let#[d,e,g,ρ,R,rd,re,d',g',hr,q]:=h;rcases BL with⟨rfl,rfl⟩|⟨rfl,rfl⟩
  ·rcases hr with⟨i,j,ex,rfl,rfl⟩|⟨l,m,ex,hz,rfl,rfl⟩
   ·let#[rfl,rfl]:=A5 ex;obtain rfl:=rd.m9;obtain rfl:=re.m9;exact bD2 pi s Z H _ _ v u Q I rx ry #[i,j,rfl,rfl,q.now R (.int _)]
   ·let#[rfl,rfl]:=A5 ex;let#[p1,Bc,rfl,t1,oY]:=rd.K9;let#[p2,qd,rfl,t2,mG]:=re.K9;refine Mq pi s Z H _ _ v u Q I rx ry (.inr #[p1,p2,Bc,qd,rfl,rfl,t1.sq,t2.sq,by rw[<- oY.length,<- mG.length];exact E4 hz,λz=>?_,λz=>?_,λp hp=>q.tup R hp (oY.append mG)])
    ·subst z;cases oY;exact q.now R (.tup t2 mG)
    ·subst z;cases mG;rw[fQ] at q;exact q.now R (.tup t1 oY)
  ·let#[i,j,ex,rfl,rfl]:=hr;let#[rfl,rfl]:=A5 ex;obtain rfl:=rd.m9;obtain rfl:=re.m9;exact bD1 pi s Z H _ _ v u Q I rx ry #[i,j,rfl,rfl,q.now R (.int _)]
 refine(ZN hN hi hx ha ho hf).imp λN cq H bp=>?_;let#[Z,g,ρ,s,R,h]:=bp;let#[xd,QH,h]:=h;let#[xv,hv,rx]:=s.val _ _ QH;refine#[xv,hv,ft hP s R (.refl _ _) h λz g1 cc H1 v1 e1 R1 r1 h=>?_];refine#[xd,z,g1,cc,R1,rx.ext e1,r1,w5 (λw g2 q=>?_) h];exact λeR H2 v2 e2 R2 r2=>q eR H2 _ (e1.trans e2) R2 ((s.ext (e1.trans e2)).set i r2)
def Uc(hF:zg X.K f cs)(ho:PE X o (LE X.K Ξ (aW P mo)))(ha:PE X a (LE X.K Ξ (aW P ma))):PS X (.AugAssign (.Attribute o f tp) .Add a pos) (LS X.K Ξ (wpS P (.kj f cs mo ma))) :=
 (a84 ho ha Mq).imp λN cq H ⟨Z,g,ρ,s,R,h⟩=>ft hP s R (.refl _ _) h λy g1 cc H1 v1 e1 R1 r1 h=>by
  let#[i,c,fs,x,rfl,hi,hc,hf,h]:=h;let#[a',rfl,ra]:=r1.j6;let#[C,dx,vs,hH,hC,jq,rk,na]:=R1.ins hi ra;have lk:=rk.look f;rw[hf] at lk;let#[v,hv,rv]:=lk.some;refine#[a',C,dx,vs,v,rfl,hH,jq,hF c C hc hC,hv,ft hP (s.ext e1) R1 e1 h λz g3 iT H3 v3 e3 R3 r3 h=>?_];let#[d',g',hR,ja,iY,hz,q]:=h;have fin:∀{lL:List Addr} {H4:Hp} {vv:V},Ext iT H3 lL H4->Rl X.K lL g' H4->f7 X.K lL H4 d' vv->∃uq ja,H4 a'=some (.ins C uq ja)/\ja.length<1000/\N.nx cq (upd H4 a' (.ins C uq (y9 f vv ja))):=by
   intro lL H4 vv e4 R4 r4;let#[C2,IU,qd,Cw,IA,Ce,Hw,Qm]:=R4.ins iY ((e3.trans e4).get ra);have:C2=C:=by grind
   subst this;let#[R5,e5]:=R4.put (o':=.ins c (m7 f d' ja)) (u:=.ins C2 IU (y9 f vv qd)) iY rfl ((e3.trans e4).get ra) #[IA,Ce,Hw.y9 r4,EX (p:=λy=>D9 X.K C2 y) (hF c C2 hc IA) Qm];exact#[IU,qd,Cw,by rw[<- Hw.length];omega,q lL _ cq (e1.trans (e3.trans (e4.trans e5))) R5 (s.ext (e1.trans (e3.trans (e4.trans e5))))]
  rcases hR with⟨j,l,ex,rfl,rfl⟩|⟨l,m,ex,QC,rfl,rfl⟩
  ·let#[rfl,rfl]:=A5 ex;obtain rfl:=rv.m9;obtain rfl:=r3.m9;exact .inl #[_,_,rfl,rfl,fin (.refl _ _) R3 (.int _)]
  ·let#[rfl,rfl]:=A5 ex;let#[p1,Bc,rfl,t1,oY]:=(rv.ext e3).K9;let#[p2,qd,rfl,t2,mG]:=r3.K9;refine .inr #[p1,p2,Bc,qd,rfl,rfl,t1.sq,t2.sq,by rw[<- oY.length,<- mG.length];exact E4 QC,λz=>?_,λz=>?_,λp hp=>?_]
   ·subst z;cases oY;exact fin (.refl _ _) R3 (.tup t2 mG)
   ·subst z;cases mG;rw[fQ] at fin;exact fin (.refl _ _) R3 (.tup t1 oY)
   ·exact fin (A4 hp) (R3.grow hp) (.tup (.inl k6) ((oY.append mG).ext (A4 hp)))
def Yd{sa sb}{HH msb}(hc:PT X c (LT X.K Ξ (dP P mc)))(ha:jd X sa (LS X.K Ξ (wpS P HH)))(hb:jd X sb (LS X.K Ξ (wpS P msb))):PS X (.If c sa sb pos) (LS X.K Ξ (wpS P (.ifs mc HH msb))) :=
 (XO hc ha hb).imp λN cq H ⟨Z,g,ρ,s,R,h⟩=>qe hP s R (.refl _ _) h λt g1 cc H1 e1 R1 h=>by
  cases t
  ·exact tO hP (s.ext e1) R1 e1 h (LN.ext e1)
  ·exact tO hP (s.ext e1) R1 e1 h (LN.ext e1)
def OF(ha:PE X a (LE X.K Ξ (aW P ma))):PS X (.Return (some a) pos) (LS X.K Ξ (wpS P (.ret ma))) :=
 (ZQ ha).imp (by rintro N cq H ⟨Z,g,ρ,s,R,h⟩;exact #[Z,g,ρ,s,R,h])
def Wj{body}{mb}(hp:PassesOwn (model X.prog X.w) X.A X.env X.xe)(hc:PT X c (LT X.K Ξ (dP P mc)))(hb:jd X body (LS X.K Ξ (wpS P mb))):PS X (.While c body [] pos) (LS X.K Ξ (wpS P (.kI mc mb))) :=
 (VE hp hc hb).imp λN cq H bp=>by
  let#[Z,g,ρ,s,R,h]:=bp;let#[W,#[m0,w0],h]:=h;refine#[λm cQ H'=>∃bV g' bT,Ext ρ H bT H'/\u1 X.K bT H' bV cQ/\Rl X.K bT g' H'/\W m bV g',#[m0,Z,g,ρ,.refl _ _,s,R,w0],?_];rintro m cQ H' ⟨bV,g',bT,e1,s',R',w'⟩;refine qe hP s' R' e1 (h m bV g' w') λt g1 cc H1 e2 R1 q=>?_;cases t
  ·exact q cc H1 cQ (e1.trans e2) R1 (s'.ext e2)
  ·let#[N2,Ct,q]:=q;refine#[λjY H2=>∃cz g2 eR,Ext ρ H eR H2/\u1 X.K eR H2 cz jY/\Rl X.K eR g2 H2/\N2 cz g2,?_,?_]
   ·rintro jY H2 ⟨cz,g2,eR,e3,s2,R2,n2⟩;let#[m',hm,w2]:=Ct cz g2 n2;exact#[m',hm,cz,g2,eR,e3,s2,R2,w2]
   ·refine tO hP (s'.ext e2) R1 (e1.trans e2) q #[?_,?_,?_,?_]
    ·exact λiM g3 n3 iT H3 kH e3 R3 s3=>#[iM,g3,iT,(e1.trans e2).trans e3,s3,R3,n3]
    ·exact λd g3 h=>h.ext (e1.trans e2)
    ·exact λiM g3 h iT H3 kH e3 R3 s3=>h iT H3 kH ((e1.trans e2).trans e3) R3 s3
    ·exact λiM g3 n3 iT H3 kH e3 R3 s3=>#[iM,g3,iT,(e1.trans e2).trans e3,s3,R3,n3]
def bH6{iter}{body}{mb}(hp:PassesOwn (model X.prog X.w) X.A X.env X.xe)(hc:X.calm=true)(hi:PI X tg iter (LI X.K Ξ (gE P mi)))(hg:PG X tg (LG X.K t))(hb:jd X body (LS X.K Ξ (wpS P mb)))(hs:∀x,foldedSetIterable iter X.env x=pure x):PS X (.For tg iter body [] pos) (LS X.K Ξ (wpS P (.fg t mi mb))) :=
 (ZP hp hc hi hg hb hs).imp λN cq H bp=>by
  let#[Z,g,ρ,s,R,h]:=bp;refine#[Z,g,ρ,s,R,F5 hP mi _ _ _ _ _ _ (λk g1 h cc H1 J e1 R1 j1=>?_) (λ_ _ z=>z) h];let#[W,#[m0,w0],h]:=h;refine#[λi m cQ H'=>∃bV g' bT,Ext cc H1 bT H'/\u1 X.K bT H' bV cQ/\Rl X.K bT g' H'/\W i m bV g',#[m0,Z,g1,cc,.refl _ _,s.ext e1,R1,w0],?_];rintro i m cQ H' ⟨bV,g',bT,e',s',R',w'⟩;let#[vN,vM]:=j1 bT g' H' e' R' i;rcases h i m bV g' w' with⟨ek,q⟩|⟨x,ek,N2,Ct,q⟩
  ·exact .inl #[vN ek,q bT H' cQ (e1.trans e') R' s']
  ·let#[go,yl]:=vM x ek;refine .inr #[go,λjY H2=>∃cz g2 eR,Ext cc H1 eR H2/\u1 X.K eR H2 cz jY/\Rl X.K eR g2 H2/\N2 cz g2,?_,?_]
   ·rintro jY H2 ⟨cz,g2,eR,e2,s2,R2,n2⟩;let#[m',hm,w2]:=Ct cz g2 n2;exact#[m',hm,cz,g2,eR,e2,s2,R2,w2]
   ·intro v H2 y;let#[e2,R2,r2]:=yl v H2 y;refine#[x,bV,g',bT,s'.ext e2,R2,r2,A8 (λcz q jY s2=>?_) q];refine tO hP s2 R2 (e1.trans (e'.trans e2)) q #[?_,?_,?_,?_]
    ·exact λiM g3 n3 iT H3 kH e3 R3 s3=>#[iM,g3,iT,(e'.trans e2).trans e3,s3,R3,n3]
    ·exact λd g3 h=>h.ext (e1.trans (e'.trans e2))
    ·exact λiM g3 h iT H3 kH e3 R3 s3=>h iT H3 kH (e1.trans ((e'.trans e2).trans e3)) R3 s3
    ·exact λiM g3 n3 iT H3 kH e3 R3 s3=>#[iM,g3,iT,(e'.trans e2).trans e3,s3,R3,n3]
def Nh{d6}{n}{iU me}:∀cq H Q,LE X.K Ξ (aW P (.comp d6 n t mi iU me)) cq H Q->Fq (LI X.K Ξ (gE P mi)) d6 n (LG X.K t) (LT X.K (oE Ξ.1) (dP P iU)) (LE X.K (oE Ξ.1) (aW P me)) cq H Q:=λcq H Q bp=>by
 let#[Z,g,ρ,s,R,h]:=bp;refine#[Z,g,ρ,s,R,F5 hP mi _ _ _ _ _ _ (λk g1 h cc H1 J e1 R1 j1=>?_) (λ_ _ z=>z) h];let#[W,#[m0,w0],h]:=h;refine#[λi m Hd cQ H'=>∃ys bV g' bT,Ext cc H1 bT H'/\u1 X.K bT H' bV cQ/\Rl X.K bT g' H'/\c8 X.K bT H' ys Hd/\W i m ys bV g',#[m0,[],_,g1,cc,.refl _ _,(s.ext e1).d6 d6 n,R1,.nil,w0],?_];rintro i m Hd cQ H' ⟨ys,bV,g',bT,e',s',R',ry,w'⟩;let#[vN,vM]:=j1 bT g' H' e' R' i;rcases h i m ys bV g' w' with⟨ek,q⟩|⟨x,ek,hz,q⟩
 ·exact .inl #[vN ek,λp hp=>(q.ext (e1.trans e')).new R' hp ry]
 ·let#[go,yl]:=vM x ek;refine .inr #[go,by rw[<- ry.length];exact Gk hz,λv H2 y=>?_];let#[e2,R2,r2]:=yl v H2 y;refine#[x,bV,g',bT,s'.ext e2,R2,r2,A8 (λcz q jY s2=>?_) q];refine#[cz,g',bT,s2,R2,u7 hP iU _ _ _ _ _ _ (λb g3 q iT H3 e3 R3=>?_) (λ_ _ z=>z.elim) q];cases b
  ·let#[m',hm,w3]:=q;exact#[m',hm,ys,cz,g3,iT,(e'.trans e2).trans e3,s2.ext e3,R3,(ry.ext e2).ext e3,by simpa using w3]
  ·refine#[cz,g3,iT,s2.ext e3,R3,c9 hP me _ _ _ _ _ _ (λz g4 q lL H4 v4 e4 R4 r4=>?_) (λ_ _ z=>z.elim) q];let#[m',hm,w4]:=q;exact#[m',hm,ys++[z],cz,g4,lL,(e'.trans e2).trans (e3.trans e4),(s2.ext e3).ext e4,R4,(((ry.ext e2).ext e3).ext e4).append (.cons r4 .nil),by simpa using w4]
def VW{elt iter}{ifs}{scope}{N'}{d6}{cl}{p2 jG}{iU me}(S:cC X scope N' d6 cl)(hc:X.calm=true)(hi:PI X tg iter (LI X.K Ξ (gE P mi)))(hg:∀pi C s H fp,PG (f6 X pi scope N' cl C s H fp) tg (LG X.K t))(ht:∀pi C s H fp,jy (f6 X pi scope N' cl C s H fp) ifs (LT X.K (oE Ξ.1) (dP P iU)))(he:∀pi C s H fp,PE (f6 X pi scope N' cl C s H fp) elt (LE X.K (oE Ξ.1) (aW P me)))(hs:∀x,foldedSetIterable iter X.env x=pure x)(mW:Gl X "sorted")(pz:X.mg "sorted"=none):PE X (.Call (.Name "sorted" p2) [.SetComp elt [#[tg,iter,ifs,0]] scope pos] [] jG) (LE X.K Ξ (aW P (.gT d6 N'.length t mi iU me))) :=
 (zN (LZ hc) mW pz (by rfl) (Z9 (Vw S hc hi hg ht he hs) uG)).imp λcq H Q bp=>by
  let#[Z,g,ρ,s,R,h]:=bp;refine#[Z,g,ρ,s,R,F5 hP mi _ _ _ _ _ _ (λk g1 h cc H1 J e1 R1 j1=>?_) (λ_ _ z=>z) h];let#[W,#[m0,w0],h]:=h;refine#[λi m ys cQ H'=>∃bV g' bT,Ext cc H1 bT H'/\u1 X.K bT H' bV cQ/\Rl X.K bT g' H'/\W i m ys bV g',#[m0,_,g1,cc,.refl _ _,(s.ext e1).d6 d6 _,R1,w0],?_];rintro i m ys cQ H' ⟨bV,g',bT,e',s',R',w'⟩;let#[vN,vM]:=j1 bT g' H' e' R' i;rcases h i m ys bV g' w' with⟨ek,hz,q⟩|⟨x,ek,hz,q⟩
  ·exact .inl #[vN ek,λp hp=>#[p,ys,rfl,k6,by omega,λp' iu=>(q.ext ((e1.trans e').trans (A4 hp))).new (R'.grow hp) iu (c8.ofInts _)]]
  ·let#[go,yl]:=vM x ek;refine .inr #[go,hz,λv H2 y=>?_];let#[e2,R2,r2]:=yl v H2 y;refine#[x,bV,g',bT,s'.ext e2,R2,r2,A8 (λcz q jY s2=>?_) q];refine#[cz,g',bT,s2,R2,u7 hP iU _ _ _ _ _ _ (λb g3 q iT H3 e3 R3=>?_) (λ_ _ z=>z.elim) q];cases b
   ·let#[m',hm,w3]:=q;exact#[m',hm,cz,g3,iT,(e'.trans e2).trans e3,s2.ext e3,R3,by simpa using w3]
   ·refine#[cz,g3,iT,s2.ext e3,R3,c9 hP me _ _ _ _ _ _ (λz g4 q lL H4 v4 e4 R4 r4=>?_) (λ_ _ z=>z.elim) q];let#[j,rfl,m',hm,w4]:=q;obtain rfl:=r4.m9;exact#[j,rfl,m',hm,cz,g4,lL,(e'.trans e2).trans (e3.trans e4),(s2.ext e3).ext e4,R4,by simpa using w4]
end
end M
namespace M
open PySem L2
section
variable{X:Cx}{Ξ:ie}{P:fb}{o:Expr}{mo:ME}{pos:Pos}(hP:j8 P)
include hP
def Tw{kx vx}{elts ifs}{x1 j}{tp apos ip}{scope}{N'}{cl}(S:cC X scope N' [j] cl)(h3:N'.length=4)(hc:X.calm=true)(ho:PE X o (LE X.K Ξ (aW P mo)))(hb:attributeBase o "items" X.env (eval o X.env)=eval o X.env)(hl:(apos.endLine==ip.line)=true)(hg:∀pi C s H fp,PG (f6 X pi scope N' cl C s H fp) (.Tuple elts x1 tp) (DX X.K 2 (xA [2,3])))(ht:∀pi C s H fp,jy (f6 X pi scope N' cl C s H fp) ifs (xp (qh (Bj X.K true) (oC 0) (oC 3))))(hk:∀pi C s H fp,PE (f6 X pi scope N' cl C s H fp) kx (oC 2))(hv:∀pi C s H fp,PE (f6 X pi scope N' cl C s H fp) vx (oC 3)) :
  PE X (.DictComp kx vx [#[.Tuple elts x1 tp,.Call (.Attribute o "items" apos) [] [] ip,ifs,0]] scope pos) (LE X.K Ξ (aW P (.prim .nr (.cons mo (.cons (.var j) .nil))))) :=
 bA0 (Nx S hc (Vy ho hb hl) hg ht hk hv λ_=>rfl) λcq H Q bp=>by
  let#[Z,g,ρ,s,R,h]:=bp;refine#[Z,g,ρ,s,R,c9 hP mo _ _ _ _ _ _ (λx g1 h cc H1 v1 e1 R1 r1=>?_) (λ_ _ z=>z) h];let#[d,dj,d',g',#[a',n,fs,ex,Ca,hl,nd,rfl,rfl],q]:=h;let#[rfl,rfl]:=A5 ex;let#[a,rfl,ra]:=r1.j6;let#[vs,ha,kr]:=R1.cg Ca ra;let#[w,hw,fE]:=(s.ext e1).val j _ dj;obtain rfl:=fE.m9;have vl:vs.length=fs.length:=by rw[<- kr.length,ai]
  refine#[a,vs,rfl,ha,λφ BA=>#[λi m ys cQ H'=>m+i=fs.length/\(∃y0 y1 y2,cQ=[some (.int n),y0,y1,y2])/\(∀b u,upd H1 a (.ext φ) b=some u->H' b=some u)/\i9 X.K cc H1 (((fs.take i).filter (qT n)).map lR) ys,#[fs.length,by simp,#[none,none,none,?_],λ_ _ z=>z,by simpa using i9.nil],?_]]
  ·rw[h3];unfold C9;simp[hw]
  rintro i m ys cQ H' ⟨hm,⟨y0,y1,y2,rfl⟩,up,ky⟩;have wz:H' a=some (.ext φ):=up _ _ k6;have tp:∀b xs,H1 b=some (.tup xs)->H' b=some (.tup xs):=λb xs z=>up _ _ (by rw[d0];exact z;intro e;rw[e,ha] at z;cases z);cases m with
  |zero =>
   have hi:i=fs.length:=by omega
   subst hi;rw[bu] at ky;refine .inl #[#[wz,by omega],λp hp=>#[a,φ,vs,?_,BA,?_]]
   ·rw[d0 (i7 wz hp)];exact wz
   have yN:a≠p:=i7 wz hp;have sw:upd (upd H' p (.dK ys)) a (.dK vs)=upd (upd H' a (.dK vs)) p (.dK ys):=funext λb=>by
    by_cases h1:b=a
    ·rw[h1,k6,d0 yN,k6]
    ·rw[d0 h1];by_cases h2:b=p
     ·rw[h2,k6,k6]
     ·rw[d0 h2,d0 h2,d0 h1]
   rw[sw];have sup:∀b u,H1 b=some u->upd H' a (.dK vs) b=some u:=λb u z=>by
    by_cases h1:b=a
    ·rw[h1,k6,<- ha,<- h1];exact z
    ·rw[d0 h1];exact up _ _ (by rw[d0 h1];exact z)
   have x1:Ext cc H1 cc (upd H' a (.dK vs)):=#[#[[],by simp],λb xs z=>sup _ _ z]
   have qr:upd H' a (.dK vs) p=none:=by rw[d0 yN.symm];exact hp
   exact q (cc++[p]) _ _ (e1.trans (x1.trans (B0 qr))) ((R1.sup sup).new qr (o:=.cg _) (u:=.dK ys) (ky.ext x1)) (.ref (R1.v9 p))
  |succ m =>
   have hi:i<fs.length:=by omega
   have yl:ys.length<=i:=by
    rw[<- ky.length,ai];exact aD (cJ _ _) (by rw[bG];exact Nat.min_le_left _ _)
   refine .inr #[#[wz,by omega],by omega,?_];rintro x H2 ⟨p,k,x,hp,rfl,hx,rfl⟩;obtain⟨⟨k',n1,n2⟩,hf⟩:∃f,fs[i]?=some f:=#[_,au hi]
   let#[v,HQ,rv]:=kr.get (i:=i) (k:=k') (d:=.tup [.int n1,.int n2]) (by rw[ah,hf];rfl);rw[hx] at HQ;let#[rfl,rfl]:=AL (aG HQ);let#[q',ws,rfl,tq,rs]:=rv.K9;obtain rfl:=c8.ints (ns:=[n1,n2]) rs;have x2:Ext cc H1 cc (upd H' p (.tup [kV k,.ref q'])):=#[#[[],by simp],λb xs z=>by rw[d0 (i7 (tp b xs z) hp)];exact tp b xs z]
   have yw:∀b u,upd H1 a (.ext φ) b=some u->upd H' p (.tup [kV k,.ref q']) b=some u:=λb u z=>by rw[d0 (i7 (up b u z) hp)];exact up b u z
   have tk:fs.take (i+1)=fs.take i++[(k,n1,n2)]:=by rw[bh,hf];rfl
   refine#[p,_,rfl,TupAt.sq (.inl k6),rfl,_,_,rfl,_,_,rfl,rfl,?_];refine#[.int n,rfl,.ref q',rfl,q',_,rfl,.inr (tq.ext x2).sq,rfl,rfl,_,rfl,?_];have hk:(!yI (.int n) ([n1,n2].map V.int))=qT n (k,n1,n2):=by simp[yI,lS,qT,Bool.beq_eq_decide_eq]
   rw[aH rfl,hk];cases hz:qT n (k,n1,n2) with
   |false =>
    refine#[m,by omega,by omega,#[_,_,_,rfl],yw,?_];rw[tk,cA,dE,hz];simpa using ky
   |true =>
    refine#[kV k,rfl,k,rfl,.ref q',rfl,m,by omega,by omega,#[_,_,_,rfl],yw,?_];rw[tk,cA,dE,hz];have:=ky.put (k:=k) rv;have np:((((fs.take i).filter (qT n)).map lR).any λkv=>decide (kv.1=k))=false:=by
     rw[gM];intro y hy e;let#[f,Cc,rfl]:=ao.mp hy;have wj:=(aS.mp Cc).1;have e:f.1=k:=aM e;let#[i',iY,e']:=eF wj;have l1:i'<i:=by rw[bG] at iY;omega
     have Bp:=da.mp nd i' i (by simp;omega) (by simpa using hi) l1;apply Bp;rw[kB] at e';have Rk:fs[i]=(k,n1,n2):=by rw[au hi] at hf;exact aG hf
     simp[e',Rk,e]
    rw[putD,az (by rw[np];decide)] at this;simpa[lR] using this
def Ue{kx vx l}{elts}{x1 i}{x}{tp ep ip px kJ}{scope}{N'}{cl}{ml}(S:cC X scope N' [] cl)(h3:N'.length=3)(hc:X.calm=true)(hl:PE X l (LE X.K Ξ (aW P ml)))(Ie:Gl X "enumerate")(hm:X.mg "enumerate"=none)(hs:starEach [l] X.env=[(false,eval l X.env)])(hg:∀pi C s H fp,PG (f6 X pi scope N' cl C s H fp) (.Tuple elts x1 tp) (DX X.K 2 (xA [1,2])))(hk:∀pi C s H fp,PE (f6 X pi scope N' cl C s H fp) kx (oC 2))(hv:∀pi C s H fp,PE (f6 X pi scope N' cl C s H fp) vx (oC 1))(hN:X.Nd)(nX:X.N[i]?=some x)(hx:Loc X.env.scope x)(hf:X.fn x=true\/X.env.scope.names.lookup x=some .local) :
  PS X (.Assign [.Name x px] (.DictComp kx vx [#[.Tuple elts x1 tp,.Call (.Name "enumerate" ep) [l] [] ip,[],0]] scope pos) kJ) (LS X.K Ξ (wpS P (.set i (.prim .lT (.cons ml .nil))))) :=
 (aM0 S hc (MF Ie hm (F4 hP hl (M9 hP) (by rw[hs];rfl)) hs) hg (λ_ _ _ _ _=>MJ) hk hv (λ_=>rfl) hN nX hx hf).imp λN cq H bp=>by
  let#[Z,g,ρ,s,R,h]:=bp;refine jE hP (m:=.cons ml .nil) s R (.refl _ _) (Q0:=λxs g1=>cL .lT xs g1 λx g2=>(LN X.K ρ H N).nx (Z.set i (some x)) g2) h λxs g1 cc H1 vs e1 R1 r1 h=>?_;let#[d',g',#[a',ns,rfl,Ca,hl,nd,rfl,rfl],q]:=h;let#[v,rfl,rv]:=r1.one;let#[a,rfl,ra]:=rv.j6;let#[vs,ha,rs]:=R1.lst Ca ra;obtain rfl:=rs.ints;refine#[a,rfl,#[_,fq.of ha],λi m ys cQ H'=>m+i=ns.length/\(∃y0 y1 y2,cQ=[y0,y1,y2])/\(∀b u,H1 b=some u->H' b=some u)/\ys=(ns.zipIdx.take i).map λp=>((.inl p.1:Key),V.int p.2),#[ns.length,by simp,#[none,none,none,?_],λ_ _ z=>z,by simp],?_]
  ·rw[h3];rfl
  rintro i' m ys cQ H' ⟨hm,⟨y0,y1,y2,rfl⟩,up,rfl⟩;have hq:fq X.K H' a (ns.map V.int):=fq.of (up _ _ ha);cases m with
  |zero =>
   have hi:i'=ns.zipIdx.length:=by rw[List.length_zipIdx];omega
   refine .inl #[#[_,hq,by simp;omega],λp hp=>?_];rw[hi,bu];have x1:Ext cc H1 cc H':=#[#[[],by simp],λb xs z=>up _ _ z]
   have e2:=e1.trans (x1.trans (B0 (o:=.dK (ns.zipIdx.map λp=>((.inl p.1:Key),V.int p.2))) hp));refine q (cc++[p]) _ _ e2 ((R1.sup up).new hp (o:=.cg (qO ns)) (u:=.dK (ns.zipIdx.map λp=>((.inl p.1:Key),V.int p.2))) ?_) ((s.ext e2).set i (.ref (R1.v9 p)));have:∀l:List (Int×Nat),i9 X.K cc H' (l.map λp=>((.inl p.1:Key),D.int p.2)) (l.map λp=>((.inl p.1:Key),V.int p.2)):=λl=>by
    induction l with
    |nil=>exact .nil
    |cons y l ih=>exact .cons (.int _) ih
   exact this _
  |succ m =>
   have hi:i'<ns.length:=by omega
   refine .inr #[#[_,_,hq,by rw[ah,au hi];rfl],by simp;omega,?_];rintro x H2 ⟨p,x,hp,rfl,hx,rfl⟩;have hx:=hx _ hq;rw[ah,au hi] at hx;cases hx;have yw:∀b u,H1 b=some u->upd H' p (.tup [.int i',.int ns[i']]) b=some u:=λb u z=>by rw[d0 (i7 (up b u z) hp)];exact up b u z
   refine#[p,_,rfl,TupAt.sq (.inl k6),rfl,_,_,rfl,_,_,rfl,rfl,?_];dsimp only[KC];rw[aH rfl];refine#[.int ns[i'],rfl,.inl ns[i'],rfl,.int i',rfl,m,by omega,by omega,#[_,_,_,rfl],yw,?_];have tk:ns.zipIdx.take (i'+1)=ns.zipIdx.take i'++[(ns[i'],i')]:=by rw[bh,List.getElem?_zipIdx,au hi];simp
   rw[tk,bE];have np:((ns.zipIdx.take i').map λp=>((.inl p.1:Key),V.int p.2)).any (λkv=>decide (kv.1=.inl ns[i']))=false:=by
    rw[gM];intro y hy e;let#[f,Cc,rfl]:=ao.mp hy;have e:(Sum.inl f.1:Key)=.inl ns[i']:=aM e;have e:f.1=ns[i']:=dh e;let#[j,hj,e']:=eF Cc;have l1:j<i':=by rw[bG] at hj;omega
    rw[kB,List.getElem_zipIdx] at e';have Bp:=da.mp nd j i' () hi l1;apply Bp;exact(cT Prod.fst e').trans e
   unfold putK;rw[az (by rw[np];decide)]
   rfl
end
end M
namespace M
open PySem L2 PySem.Spec PyProof.Rows
variable{X:Cx}{Ξ:ie}{P:fb}{x qual:Str}{pos px:Pos}{c:j4}{i n:Nat}{e o b:Expr}{es args:List Expr}{env:Env}{p:Pr}{f:Addr}{m:ME}{sc scope:Scope}{r:CF}{cd:Value}{N:List Str}{A:Around}{outer:List Env}{s:Shared}{H:Hp}{E:XK}
section
variable(hP:j8 P)
include hP
def Wh{C}{B newId gG}{bm}{np eL}{jK}{rest}{gN}(hc:X.calm=true)(O:OwnCls x C bm newId X.mg X.base)(FB:ExcBaseFacts B newId gG bm)(hg:Gl X x)(ha:PA X (jK::rest) (LA X.K Ξ (fJ P gN)))(hr:zr X Ξ.2)(hx:x∈Ξ.1)(hC:v5 X.K x C)(he:starEach (jK::rest) X.env=(false,eval jK X.env)::starEach rest X.env)(fe:(backTo eL (starEach rest X.env)).any (·.1)=false)(hd:(x==("__debug__":Str))=false):PS X (.Raise (some (.Call (.Name x np) (jK::rest) [] eL)) none pos) (LS X.K Ξ (wpS P (.raise x gN))) :=
 (VD hc O FB hg ha hr he fe hd).imp λN cq H bp=>by
  let#[Z,g,ρ,s,R,h]:=bp;refine jE hP s R (.refl _ _) h λds g1 cc H1 vs e1 R1 r1 h=>?_;exact#[by rw[<- r1.length];exact E4 (aD h.1 ∅),h.2 cc H1 C e1 R1 hx hC]
abbrev Aa(X:Cx)(ex:List Str)(D:L2.Ends)(cW:L2.St)(hs:List ExceptHandler):ie:=(ex,λv _ H=>∃C,v=.ref C/\sY X D cW C H hs)
inductive lU(X:Cx)(Ξ:ie)(P:fb):List ExceptHandler->List (Str×ME)->Prop
 |nil (hh:xr X Ξ.2):lU X Ξ P [] []
 |cons {y:Str} {C':Addr} {p p1 p2:Pos} {e:Expr} {me:ME} {hs:List ExceptHandler} {ms:List (Str×ME)} (hg:Gl X y) (hd:(y==("__debug__":Str))=false) (hm:X.mg y=some (.ref C'))
   (hx:∀x C,x∈Ξ.1->v5 X.K x C->PySem.W.exmOne X.K (.ref C) (.ref C')=some (decide (x=y\/y="MintError"))) (he:∀ea,PE (L0 X ea) e (LE X.K (oE Ξ.1) (aW P me))) (r:lU X Ξ P hs ms) :
   lU X Ξ P (.ExceptHandler (some (.Name y p)) none [.Return (some e) p1] p2::hs) ((y,me)::ms)
def NL{N:L2.Ends}{ρ bT:List Addr}{H H':Hp}{Z:S}{g:G}{x:Xn}{C:Addr}(hl:Z.length=X.N.length)(e:Ext ρ H bT H')(R:Rl X.K bT g H')(hx:x.cls∈Ξ.1)(hC:v5 X.K x.cls C) :
  ∀{hs:List ExceptHandler} {ms:List (Str×ME)},lU X Ξ P hs ms->nK P (LN X.K ρ H N) (Z.map λ_=>none) (LX X.K ρ H Ξ) ms x g->sY X N (List.replicate X.N.length none) C H' hs
 |_,_,.nil hh,q=>#[Ξ.2,hh,q bT H' C e R hx hC]
 |_,_,.cons (me:=me) hg hd hm QG he r,q=>by
  refine#[hg,hd,_,_,hm,QG _ _ hx hC,?_];unfold nK at q;split at q
  ·rename_i ex;rw[aH (by simpa using ex)];refine#[LS X.K (oE Ξ.1) (wpS P (.seq (.ret me) .pass)),λea=>MV (X:=L0 X ea) (Ξ:=oE Ξ.1) hP (OF (X:=L0 X ea) hP (he ea)) (OD (X:=L0 X ea) hP),?_];refine#[Z.map λ_=>none,g,bT,#[by simp[hl],λi d z=>?_],R,?_]
   ·simp_all
   ·refine c9 hP me _ _ _ _ _ _ (λd g1 h=>?_) (λ_ _ z=>z.elim) q;exact h.ext e
  ·rename_i ex;rw[az (by simpa using ex)];exact NL hl e R hx hC r q
def bH5{h₀}{hs}{ms}{body}{mb}(nR:X.sg=none)(hb:∀pi D,jd (qY X pi (Au X pi D (h₀::hs))) body (LS X.K (Aa X Ξ.1 D (List.replicate X.N.length none) (h₀::hs)) (wpS P mb)))(hh:lU X Ξ P (h₀::hs) ms):PS X (.Try body (h₀::hs) [] [] pos) (LS X.K Ξ (wpS P (.pS mb ms))):=by
 intro pi s cq H N I ⟨Z,g,ρ,sr,R,h⟩;refine ZR (t:=λD _=>LS X.K (Aa X Ξ.1 D (List.replicate X.N.length none) (h₀::hs)) (wpS P mb)) (Ξ:=λD _=>(Aa X Ξ.1 D (List.replicate X.N.length none) (h₀::hs)).2) (λ_=>none) (λ_=>List.replicate X.N.length none) (λ_ _ z=>by cases z) nR (λpi D _ _=>hb pi D) pi s cq H N I #[(by rintro C H' ⟨C',e,z⟩;simp_all),?_];refine#[Z,g,ρ,sr,R,wpS_mono hP mb _ _ _ _ _ _ #[λ_ _ z=>z,λ_ _ z=>z,λ_ _ z=>z,λ_ _ z=>z] (λx g1 q bT H' C e' R' hm hc=>#[C,rfl,?_]) h];exact NL (Ξ:=Ξ) hP (sr.len.trans I.len) e' R' hm hc hh q
end
structure j4 where
 N:List Str
 nm:List (Str×NameKind)
 mr:Bool
 fns:List (Str×Nat)
 con:List (Str×D)
 blt:List Str
 exc:List Str
 gd:List (Str×List D)
 cls:List (Str×Nat)
 nN:List (Str×Str×Nat)
 oi:List (Str×Str)
 jF:Bool
 ji:Bool
 wr:Bool:=true
abbrev gz:Expr->Bool
 |.Set ..=>false
 |.Starred ..=>false
 |.Slice ..=>false
 |_=>true
abbrev F6:Expr->Bool
 |.ListComp ..=>false
 |.SetComp ..=>false
 |.DictComp ..=>false
 |_=>true
abbrev Jz:Expr->Bool
 |.Name ..=>false
 |_=>true
abbrev uz:Expr->Bool
 |.Tuple ..=>false
 |_=>true
abbrev EL:Expr->Bool
 |.Name ..=>true
 |.Call ..=>true
 |.Subscript ..=>true
 |.Constant ..=>true
 |.Attribute ..=>true
 |.BinOp ..=>true
 |_=>false
abbrev uE:Expr->Bool
 |.Call (.Name ..) [] ..=>false
 |_=>true
abbrev j4.idx(c:j4)(x:Str):Option Nat:=c.N.findIdx? λy=>decide (y=x)
abbrev j4.rq(c:j4)(x:Str):Bool:=match c.nm.lookup x with
 |some .local=>true
 |some .cell=>true
 |some .free=>true
 |_=>false
abbrev j4.gl(c:j4)(x:Str):Bool:=decide (c.nm.lookup x=some .globalImplicit)
abbrev j4.A6(c:j4)(x:Str):Bool:=decide (c.nm.lookup x=some .local)||decide (c.nm.lookup x=some .cell)
abbrev nC(x:Str):Bool:=(x==("__debug__":Str))==false&&(x==("__classdict__":Str))==false&&decide (x≠"__name__")
abbrev Ft:List (Str×String):=[("int","int"),("bool","bool"),("str","str"),("tuple","tuple"),("list","list")]
abbrev Fy:List (Str×Pr):=[("len",.len),("list",.list),("tuple",.tuple),("isinstance",.isin),("all",.all),("int",.int),("sorted",.eW),("sum",.sum),("set",.rS)]
abbrev xJ:List (Str×Pr):=[("clear",.clear),("pop",.rL)]
abbrev FI:List (Str×Pr):=[("append",.append),("pop",.pop),("add",.ka)]
abbrev xG:Expr->Option (Str×List Expr)
 |.Call (.Name x _) args [] _=>some (x,args)
 |_=>none
abbrev Ji:Expr->Bool
 |.Tuple ..=>true
 |_=>false
abbrev asName:Expr->Option Str
 |.Name x _=>some x
 |_=>none
abbrev frees(sc:Scope):List Str:=(sc.names.filter λy=>decide (y.2=.free)).map (·.1)
abbrev locals(sc:Scope):List Str:=(sc.names.filter λy=>decide (y.2=.local)||decide (y.2=.cell)).map (·.1)
abbrev j4.inner(c:j4)(sc:Scope):j4:={ c with N:=frees sc++locals sc,nm:=sc.names,mr:=false,jF:=false,ji:=false,wr:=true }
abbrev j4.d6(c:j4)(sc:Scope):List Nat:=(frees sc).map λx=>(c.idx x).getD 0
abbrev j4.xO(c:j4)(sc:Scope):Bool :=
 decide (sc.kind=.function)&&sc.names.all (λy=>!decide (y.2=.cell)||decide (sc.names.lookup y.1=some .cell))&&sc.names.all (λy=>!decide (y.2=.local)||decide (sc.names.lookup y.1=some .local)) &&
 decide (frees sc++locals sc).Nodup&&(frees sc).all (λx=>(c.idx x).isSome&&decide (sc.names.lookup x=some .free)&&(decide (c.nm.lookup x=some .cell)||decide (c.nm.lookup x=some .free)))
abbrev j4.slot(c:j4)(e:Expr):Option Nat:=(asName e).bind λx=>if c.A6 x then c.idx x else none
abbrev j4.slots(c:j4):List Expr->Option (List Nat)
 |[]=>some []
 |e::r=>(c.slot e).bind λi=>(c.slots r).map λis=>i::is
abbrev j4.tg(c:j4)(e:Expr):Option MT:=((c.slot e).map .one).orElse λ_=>match e with
 |.Tuple es _ _=>(c.slots es).map .many
 |_=>none
abbrev sZ:Const->Option D
 |.int i=>some (.int i)
 |.bool b=>some (.bl b)
 |.none=>some .br
 |.str x=>some (.str x)
 |_=>none
structure CF where
 e:j4->Expr->Option ME
 t:j4->Expr->Option ME
 s:j4->Stmt->Option MS
section
variable(r:CF)(c:j4)
abbrev c1(p:Pr)(a:Expr):Option ME:=(r.e c a).map λm=>.prim p (.cons m .nil)
abbrev c2(p:Pr)(a b:Expr):Option ME:=(r.e c a).bind λma=>(r.e c b).map λmb=>.prim p (.cons ma (.cons mb .nil))
abbrev O8:List Expr->Option ME
 |[]=>some .nil
 |e::es=>if gz e then(r.e c e).bind λm=>(O8 es).map λms=>.cons m ms else none
abbrev Ah:List (Option Expr)->List Expr->Option ME
 |[],[]=>some .nil
 |some k::ks,v::vs=>(r.e c k).bind λmk=>(r.e c v).bind λmv=>(Ah ks vs).map λms=>.cons mk (.cons mv ms)
 |_,_=>none
abbrev Gx(op:BoolOp):List Expr->Option ME
 |[]=>none
 |[a]=>r.e c a
 |a::b::rs=>(r.e c a).bind λma=>(Gx op (b::rs)).map λmb=>match op with
  |.And=>.dS ma mb
  |.Or=>.gF ma mb
abbrev Gy(op:BoolOp):List Expr->Option ME
 |[]=>none
 |[a]=>r.t c a
 |a::b::rs=>(r.t c a).bind λma=>(Gy op (b::rs)).map λmb=>match op with
  |.And=>.dS ma mb
  |.Or=>.gF ma mb
abbrev JY:List Expr->Option ME
 |[]=>some .no
 |[e]=>r.t c e
 |_=>none
abbrev A2:List Stmt->Option MS
 |[]=>some .pass
 |s::rs=>(r.s c s).bind λm=>(A2 rs).map λms=>.seq m ms
abbrev Fw(x:Str):Option ME :=
 if nC x then(if c.rq x then(c.idx x).map .var else if c.gl x then((c.con.lookup x).map .lit).orElse λ_=>if c.blt.contains x then(Ft.lookup x).map λt=>.lit (.ty t) else none else none) else none
abbrev AW(op:UnaryOp)(a:Expr):Option ME:=if op=.Not then(r.e c a).map .de else c1 r c (.un op) a
abbrev j4.Kl(b:Expr):Option (List D):=(asName b).bind λx=>if c.gl x&&nC x then c.gd.lookup x else none
abbrev xY(a:Expr)(ops:List CmpOp)(bs:List Expr):Option ME:=match ops,bs with
 |[op],[b]=>if behindInMarks op b then none else c2 r c (.cmp op) a b
 |[op,ir],[b,d]=>if lastMarks [op,ir] [b,d] then none else(r.e c a).bind λma=>(r.e c b).bind λmb=>(r.e c d).map λmd=>.chain op ir ma mb md
 |_,_=>none
abbrev SS:Expr->Option (Option Expr×Option Expr×Option Expr)
 |.Slice lo hi st _=>some (lo,hi,st)
 |_=>none
abbrev Hf(a:Expr):Option Expr->Option Expr->Option Expr->Option ME
 |some b,none,none=>c2 r c (.lY true false) a b
 |none,some b,none=>c2 r c (.lY false true) a b
 |_,_,_=>none
abbrev KI(a b:Expr):Option ME:=((SS b).bind λq=>Hf r c a q.1 q.2.1 q.2.2).orElse λ_=>if gz b then((c.Kl a).bind λkvs=>(r.e c b).map λmb=>.prim .nk (.cons (.lit (.tup kvs)) (.cons mb .nil))).orElse λ_=>c2 r c .ix a b else none
abbrev He(x:Str)(e:Expr):Option ME:=(xG e).bind λq =>
 if x="list" && q.1="range" && c.blt.contains "list" && c.blt.contains "range" && c.gl "range" then (match q.2 with
  |[a]=>if gz a then c1 r c .mL a else none
  |[a,b]=>if gz a&&gz b then c2 r c .mK a b else none
  | _=>none)
 else if x="sorted" && q.1="set" && c.blt.contains "sorted" && c.blt.contains "set" && c.gl "set" then (match q.2 with
  |[a]=>if gz a then c1 r c .sset a else none
  | _=>none)
 else if x="len" && q.1="set" && c.blt.contains "len" && c.blt.contains "set" && c.gl "set" then (match q.2 with
  |[a]=>if gz a then c1 r c .nB a else none
  | _=>none)
 else none
abbrev b38(x:Str)(e:Expr):List Expr->Option ME
 |[]=>He r c x e
 |_=>none
abbrev FW(x:Str):Option ME:=if nC x&&c.gl x then((c.fns.lookup x).map λf=>.call f .nil).orElse λ_=>(c.cls.lookup x).map λf=>.make x f .nil else none
abbrev FX(x:Str)(e:Expr)(es:List Expr):Option ME:=if nC x&&c.gl x then(b38 r c x e es).orElse λ_=>(O8 r c (e::es)).bind λms=>((c.fns.lookup x).map λf=>.call f ms).orElse λ_=>((c.cls.lookup x).map λf=>.make x f ms).orElse λ_=>if c.blt.contains x then(Fy.lookup x).map λp=>.prim p ms else none else none
abbrev OQ(x:Str):List Expr->Option ME
 |[]=>FW c x
 |e::es=>FX r c x e es
abbrev j4.meths(m:Str):List (Str×Nat):=(c.nN.filter λy=>decide (y.1=m)).map (·.2)
abbrev FY(o:Expr)(m:Str)(apos pos:Pos)(args:List Expr):Option ME :=
 if uE o && (apos.endLine == pos.line) && decide (args.length < 20) then (r.e c o).bind λmo=>(O8 r c args).bind λms=>if m="index" then (if args.isEmpty then none else some (.fu .index mo ms)) else if decide (m="pop") && Jz o && !args.isEmpty then some (.fu .iW mo ms) else if args.isEmpty && (xJ.lookup m).isSome then (xJ.lookup m).map λp=>.fu p mo ms else (match FI.lookup m with
  |some p=>if args.isEmpty then none else some (.fu p mo ms)
  | none=>some (.bK m (c.meths m) mo ms)) else none
abbrev Fv(f:Expr)(args:List Expr)(jn:List Keyword)(pos:Pos):Option ME:=if jn.isEmpty then(match f with
 |.Name x _=>OQ r c x args
 |.Attribute o m apos=>FY r c o m apos pos args
 | _=>none) else none
abbrev Aj(tg e:Expr):Option ME:=(((xG e).bind λq =>
  if q.1="enumerate" then (match q.2 with
   |[a]=>if c.gl "enumerate"&&c.blt.contains "enumerate"&&gz a&&Ji tg then(r.e c a).map .kL else none
   | _=>none)
  else if q.1="reversed" then (match q.2 with
   |[a]=>if c.gl "reversed"&&c.blt.contains "reversed"&&gz a then(r.e c a).map .nP else none
   | _=>none)
  else if q.1="range" then (match q.2 with
   |[a]=>if c.gl "range"&&c.blt.contains "range"&&gz a then(r.e c a).map .fL else none
   |[a,b]=>if c.gl "range"&&c.blt.contains "range"&&gz a&&gz b then(r.e c a).bind λma=>(r.e c b).map λmb=>.jo ma mb else none
   | _=>none)
  else none):Option ME).orElse λ_=>if gz e then (r.e c e).map .eZ else none
abbrev tB(elt:Expr)(gens:List Comprehension)(sc:Scope):Option ME:=match gens with
 |[#[tg,it,ifs,qq]]=>if c.xO sc&&decide (qq=0)&&gz it then((c.inner sc).tg tg).bind λt=>(Aj r c tg it).bind λmi=>(JY r (c.inner sc) ifs).bind λmc=>(r.e (c.inner sc) elt).map λme=>.comp (c.d6 sc) (frees sc++locals sc).length t mi mc me else none
 |_=>none
abbrev Kh:Expr->Option Str
 |.Name x _=>some x
 |_=>none
abbrev SR:Expr->Option (Expr×List Comprehension×Scope)
 |.SetComp elt gens sc _=>some (elt,gens,sc)
 |_=>none
abbrev b41:ME->Option ME
 |.comp a n t i k e=>some (.gT a n t i k e)
 |_=>none
abbrev AX(f:Expr)(args:List Expr)(jn:List Keyword):Option ME:=match args with
 |[a]=>if jn.isEmpty&&decide (Kh f=some "sorted")&&c.gl "sorted"&&c.blt.contains "sorted" then(SR a).bind λq=>(tB r c q.1 q.2.1 q.2.2).bind b41 else none
 |_=>none
abbrev yv(f:Expr)(args:List Expr)(jn:List Keyword):Option ME:=(λ(_:j4)=>none) c
abbrev Eh(es:List Expr)(k:Nat):Option ME:=if c.mr&&decide (k=0) then(match es with
 |[.Constant (.int i) _ _]=>some (.prim (.jZ i) .nil)
 | _=>none) else none
abbrev Kg:Expr->Option (Expr×List Expr×List Keyword×Pos)
 |.Call f a k p=>some (f,a,k,p)
 |_=>none
abbrev Jh:Expr->Option (Expr×Str×Pos)
 |.Attribute o m p=>some (o,m,p)
 |_=>none
abbrev SQ:Expr->Option (Expr×List CmpOp×List Expr)
 |.Compare a ops bs _=>some (a,ops,bs)
 |_=>none
abbrev DU:Expr->Option (List Expr)
 |.Tuple es _ _=>some es
 |_=>none
abbrev j4.oA(c:j4)(e:Expr)(i:Nat):Bool:=((Kh e).map λx=>nC x&&c.rq x&&decide (c.idx x=some i)).getD false
abbrev Hh(c:j4):List Expr->Bool
 |[b]=>c.oA b 3
 |_=>false
abbrev Hg(c:j4):List Expr->Bool
 |[e]=>((SQ e).map λq=>decide (q.2.1=[.NotIn])&&c.oA q.1 0&&Hh c q.2.2).getD false
 |_=>false
abbrev AZ(kx vx:Expr)(gens:List Comprehension)(sc:Scope):Option ME:=match gens with
 |[#[tg,it,ifs,qq]]=>if c.xO sc&&decide (qq=0)&&decide ((frees sc++locals sc).length=4)&&(c.inner sc).oA kx 2&&(c.inner sc).oA vx 3&&Hg (c.inner sc) ifs then
   (Kg it).bind λq=>(Jh q.1).bind λw=>if q.2.1.isEmpty&&q.2.2.1.isEmpty&&decide (w.2.1="items")&&uE w.1&&(w.2.2.endLine==q.2.2.2.line) then
    (DU tg).bind λes=>if decide ((c.inner sc).slots es=some [2,3]) then (match c.d6 sc with
     |[j]=>(r.e c w.1).map λmo=>.prim .nr (.cons mo (.cons (.var j) .nil))
     | _=>none) else none else none else none
 |_=>none
abbrev JF:Expr->Option ME
 |.Name x _=>Fw c x
 |.Constant k _ _=>(sZ k).map .lit
 |.BinOp a op b _=>c2 r c (.bin op) a b
 |.UnaryOp op a _=>AW r c op a
 |.Compare a ops bs _=>xY r c a ops bs
 |.BoolOp op vs _=>Gx r c op vs
 |.IfExp t a b _=>(r.t c t).bind λmt=>(r.e c a).bind λma=>(r.e c b).map λmb=>.ite mt ma mb
 |.Tuple es _ _=>(O8 r c es).map (.prim .tup)
 |.List es _=>(O8 r c es).map (.prim .lst)
 |.Subscript a b _=>KI r c a b
 |.Dict ks vs _=>if ks.isEmpty&&vs.isEmpty then some (.prim .Y5 .nil) else if decide (ks.length<=15) then(Ah r c ks vs).map .oo else none
 |.Attribute o f _=>if uE o then c1 r c (.fld f) o else none
 |.Call f args jn pos=>(AX r c f args jn).orElse λ_=>(yv c f args jn).orElse λ_=>Fv r c f args jn pos
 |.ListComp elt gens sc _=>tB r c elt gens sc
 |.Set es k _=>Eh c es k
 |_=>none
abbrev stepT:Expr->Option ME
 |.UnaryOp op a _=>if op=.Not then(r.t c a).map .de else none
 |.BoolOp op vs _=>Gy r c op vs
 |.Compare a ops bs _=>(xY r c a ops bs).map .eB
 |e=>if EL e then(r.e c e).map .eB else none
abbrev Jn:Expr->Option ME
 |.Constant k _ _=>(sZ k).map .lit
 |_=>none
abbrev Fz:List Expr->Option ME
 |[]=>some .nil
 |e::es=>(Jn e).bind λm=>(Fz es).map λms=>.cons m ms
abbrev Jm:Expr->Option ME
 |.List es _=>(Fz es).map (.prim .lst)
 |.Constant k _ _=>(sZ k).map .lit
 |_=>none
abbrev b33:List Stmt->Option Expr
 | [s]=>(match s with
  |.Return e _=>e
  | _=>none)
 |_=>none
abbrev JV:ExceptHandler->Option (Str×Expr)
 |.ExceptHandler t n b _=>if n.isNone then t.bind λt=>(asName t).bind λy=>(b33 b).map λe=>(y,e) else none
abbrev Ai:List ExceptHandler->Option (List (Str×ME))
 |[]=>some []
 |h::hs=>(JV h).bind λq=>if c.exc.contains q.1&&c.gl q.1&&nC q.1 then(Jm q.2).bind λm=>(Ai hs).map λms=>(q.1,m)::ms else none
abbrev Ma(e f:Option Expr):Option (Str×Expr×List Expr):=if f.isNone then e.bind λe=>(xG e).bind λq=>q.2.head?.map λa=>(q.1,a,q.2.tail) else none
abbrev j4.Ay(f:Str):List Str:=(c.oi.filter λy=>decide (y.1=f)).map (·.2)
abbrev Fx:List Expr->Option (Expr×Expr×Expr×Expr)
 |_=>none
abbrev b37(e:Expr):Option ME:=match e with
 |.DictComp kx vx gens sc _=>AZ r c kx vx gens sc
 |e=>r.e c e
abbrev JW{α:Type}:List α->Option α
 |[x]=>some x
 |_=>none
abbrev AY(kx vx:Expr)(gens:List Comprehension)(sc:Scope):Option ME:=match gens with
 |[#[tg,it,ifs,qq]]=>if c.xO sc&&decide (qq=0)&&decide ((frees sc++locals sc).length=3)&&(c.inner sc).oA kx 2&&(c.inner sc).oA vx 1&&ifs.isEmpty&&(c.d6 sc).isEmpty then
   (xG it).bind λq=>(JW q.2).bind λa=>(DU tg).bind λes=>if decide (q.1="enumerate")&&c.gl "enumerate"&&c.blt.contains "enumerate"&&gz a&&decide ((c.inner sc).slots es=some [1,2]) then(r.e c a).map λma=>.prim .lT (.cons ma .nil) else none else none
 |_=>none
abbrev Ba(e:Expr):Option ME:=match e with
 |.DictComp kx vx gens sc _=>AY r c kx vx gens sc
 |_=>none
abbrev Kx(tg e:Expr):Option MS:=match tg with
 |.Name x _=>if c.A6 x then(c.idx x).bind λi=>((r.e c e).orElse λ_=>Ba r c e).map λm=>.set i m else none
 |.Tuple es _ _=>(Fx es).elim (if uz e&&F6 e then(c.slots es).bind λis=>(r.e c e).map λm=>.nL (.many is) m else none) λq=>if F6 e&&gz q.2.1&&gz q.2.2.2 then(r.e c q.1).bind λm1=>(r.e c q.2.1).bind λn1=>(r.e c q.2.2.1).bind λm2=>(r.e c q.2.2.2).bind λn2=>(r.e c e).map λm=>.yz m1 n1 m2 n2 m else none
 |.Subscript o i _=>if gz i&&F6 e then(r.e c o).bind λmo=>(r.e c i).bind λmi=>(r.e c e).map λm=>.cS mo mi m else none
 |.Attribute o f _=>(r.e c o).bind λmo=>(b37 r c e).map λm=>.gi f (c.Ay f) mo m
 |_=>none
abbrev Jj:Operator->Option Pr
 |.Add=>some .iadd
 |.Sub=>some .rV
 |_=>none
abbrev toR(e:Expr)(m:ME):ME:=(λ(_:j4)=>m) c
abbrev JG:Stmt->Option MS
 |.Expr e _=>if F6 e then(r.e c e).map .expr else none
 | .Assign Be e _=>(match Be with
  |[tg]=>Kx r c tg e
  | _=>none)
 | .AugAssign tg op e _=>(match tg with
  |.Attribute o f _=>if decide (op=.Add) then(r.e c o).bind λmo=>(r.e c e).map λm=>.kj f (c.Ay f) mo m else none
  |.Name x _=>if c.A6 x then(Jj op).bind λp=>(c.idx x).bind λi=>(r.e c e).map λm=>.kW i p m else none
  | _=>none)
 |.If t a b _=>(r.t c t).bind λmt=>(A2 r c a).bind λma=>(A2 r c b).map λmb=>.ifs mt ma mb
 |.For tg it body pJ _=>if c.mr&&(pJ.isEmpty&&gz it) then(c.tg tg).bind λt=>(Aj r c tg it).bind λmi=>(A2 r c body).map λmb=>.fg t mi mb else none
 |.While t body pJ _=>if c.mr&&pJ.isEmpty then(r.t c t).bind λmt=>(A2 r c body).map λmb=>.kI mt mb else none
 | .Return e _=>(match e with
  |some e=>(r.e c e).map λm=>.ret (toR c e m)
  | none=>some .rH)
 |.Pass _=>some .pass
 |.Raise e f _=>(Ma e f).bind λq=>if c.jF&&c.exc.contains q.1&&c.gl q.1&&nC q.1 then(O8 r c (q.2.1::q.2.2)).map (.raise q.1) else none
 |.Try body hs el fi _=>if c.ji&&!hs.isEmpty&&el.isEmpty&&fi.isEmpty then(A2 r { c with jF:=false,ji:=false,wr:=true } body).bind λmb=>(Ai c hs).map λms=>.pS mb ms else none
 |_=>none
end
abbrev comp:Nat->CF
 |0=>#[λ_ _=>none,λ_ _=>none,λ_ _=>none]
 |n+1=>#[JF (comp n),stepT (comp n),λc s=>(JG (comp n) c s).orElse λ_=>some (.expr .no)]
structure gZ(X:Cx)(c:j4)(P:fb)(Ξ:ie):Prop where
 N:X.N=c.N
 nd:c.N.Nodup
 loc:∀x,c.nm.lookup x=some .local->X.env.scope.names.lookup x=some .local
 zf:∀x,c.nm.lookup x=some .cell->X.env.scope.names.lookup x=some .cell
 Dw:∀x,c.nm.lookup x=some .free->X.env.scope.names.lookup x=some .cell\/X.env.scope.names.lookup x=some .free
 IH:∀x,c.nm.lookup x=some .globalImplicit->X.env.scope.names.lookup x=some .globalImplicit
 cells:∀x,(c.nm.lookup x=some .cell\/c.nm.lookup x=some .free)->∃a,X.env.cells.lookup x=some a
 mr:∀x,c.nm.lookup x=some .cell->X.fn x=true
 calm:X.calm=true
 units:X.A.units+100<cLine
 own:c.mr=true->PassesOwn (model X.prog X.w) X.A X.env X.xe
 mono:j8 P
 con:∀x d,c.con.lookup x=some d->∃v u,X.mg x=some u/\RelV v u/\∀ρ H,f7 X.K ρ H d v
 blt:∀x,c.blt.contains x=true->X.mg x=none
 fns:∀x f,c.fns.lookup x=some f->∃k fa fd ps,oI X P Ξ.1 k f fa fd ps/\w6 k X.A/\X.mg x=some (.ref fa)/\PySem.W.keepIn X.K (.ref fa)=true
 cls:∀x f,c.cls.lookup x=some f->∃k C fa fd ps,oI X P Ξ.1 k f fa fd ps/\w6 (k+1) X.A/\X.mg x=some (.ref C)/\v5 X.K x C/\je X.K C/\Mk X.K C fa
 nN:∀m y f C,(m,y,f)∈c.nN->v5 X.K y C->∃k fa fd ps,Meth X.K C m fa/\oI X P Ξ.1 k f fa fd ps/\w6 k X.A
 oi:∀f y C,(f,y)∈c.oi->v5 X.K y C->D9 X.K C f
 zd:Ξ.1=c.exc
 pass:Passes (gY X.prog X.w) X Ξ.2
 jF:c.jF=true->zr X Ξ.2
 ji:c.ji=true->X.stack=X.env::X.outer/\X.env.frame=some X.env.locals/\xr X Ξ.2
 exc:∀x,c.exc.contains x=true->∃C,X.mg x=some (.ref C)/\v5 X.K x C/\∃B newId gG bm,OwnCls x C bm newId X.mg X.base/\ExcBaseFacts B newId gG bm
 DA:∀x y C C',c.exc.contains x=true->c.exc.contains y=true->v5 X.K x C->v5 X.K y C'->PySem.W.exmOne X.K (.ref C) (.ref C')=some (decide (x=y\/y="MintError"))
 Du:∀x kvs,c.gd.lookup x=some kvs->Jc X x kvs
 code:c.mr=true->PySem.W.kdsCode X.K X.env.code=true
 sgn:c.wr=true->X.sg=none
def bD4(h:c.idx x=some i):c.N[i]?=some x:=by
 unfold j4.idx at h;rw[km] at h;let#[h1,h2,_]:=h;rw[au h1,aM h2]
def gZ.JL(C:gZ X c P Ξ)(h:c.rq x=true):xZ X.env.scope x:=by
 unfold j4.rq at h;split at h
 ·rename_i e;exact .inl (C.loc x e)
 ·rename_i e;exact .inr (.inl (C.zf x e))
 ·rename_i e;rcases C.Dw x e with z|z
  ·exact .inr (.inl z)
  ·exact .inr (.inr z)
 ·cases h
def gZ.E7(C:gZ X c P Ξ)(h:c.gl x=true):Gl X x:=C.IH x (aM h)
def gZ.A6(C:gZ X c P Ξ){x}(h:c.A6 x=true):Loc X.env.scope x/\(X.fn x=true\/X.env.scope.names.lookup x=some .local):=by
 unfold j4.A6 at h;rw[dN] at h;rcases h with h|h
 ·have:=C.loc x (aM h);exact#[.inl this,.inr this]
 ·exact#[.inr (C.zf x (aM h)),.inl (C.mr x (aM h))]
def gZ.pO(C:gZ X c P Ξ)(h:c.idx x=some i):X.N[i]?=some x:=by rw[C.N];exact bD4 h
def gZ.oZ(C:gZ X c P Ξ)(hw:c.wr=true):X.Nd:=#[by rw[C.N];exact C.nd,C.sgn hw]
def EN(h:asName e=some x):∃p,e=.Name x p:=by
 cases e<;>first|(cases h;exact#[_,rfl])|cases h
def ND(h:c.slot e=some i):∃x p,e=.Name x p/\c.A6 x=true/\c.idx x=some i:=by
 let#[x,hx,h2]:=ag.mp h;let#[p,rfl]:=EN hx;split at h2
 ·exact#[x,p,rfl,by assumption,h2]
 ·cases h2
def gZ.slots(C:gZ X c P Ξ):∀{es:List Expr} {is:List Nat},c.slots es=some is->fO X es is:=by
 intro es
 induction es with
 |nil=>intro is h;cases h;exact .nil
 |cons e r ih =>
  intro is h;let#[i,hi,h]:=ag.mp h;let#[is',hs,rfl]:=aa.mp h;let#[x,p,rfl,hl,hx]:=ND hi;exact .cons (C.pO hx) (C.A6 hl).1 (C.A6 hl).2 (ih hs)
def orElse_some{α:Type}{a}{b:Unit->Option α}{m}(h:a.orElse b=some m):a=some m\/b Unit.unit=some m:=by
 cases a with
 |none=>exact .inr h
 |some x=>exact .inl h
def gZ.KG(C:gZ X c P Ξ)(hw:c.wr=true){tg}{t}(h:c.tg tg=some t):PG X tg (LG X.K t):=by
 rcases orElse_some h with h|h
 ·let#[i,hi,rfl]:=aa.mp h;let#[x,p,rfl,hl,hx]:=ND hi;exact bJ0 (C.oZ hw) (C.pO hx) (C.A6 hl).1 (C.A6 hl).2
 ·cases tg<;>first|(cases h;done)|skip
  let#[is,hs,rfl]:=aa.mp (show(c.slots _).map MT.many=some t from h);exact MU C.calm (C.oZ hw) (C.slots hs)
def o8(h:gz e=true):starEach (e::es) env=(false,eval e env)::starEach es env:=by
 cases e<;>first|rfl|cases h
def zM(h:gz e=true):∀x,foldedSetIterable e env x=pure x:=by
 intro x;cases e<;>first|rfl|cases h
def Ke(h:gz e=true):Gb e:=by
 intro o i;cases e<;>first|rfl|cases h
def bB6{i}{tp}(h:gz i=true):∀v,assign (.Subscript o i tp) env v=(do
      let ov <- holding [v] (eval o env)
      let iv <- holding [v,ov] (eval i env)
      standAt tp
      holding [v,ov,iv] (setItem ov iv v)
      release [v,ov,iv] []):=by
  intro v;cases i<;>first|rfl|cases h
def EI{t}(h:F6 e=true):swapsWith e t n env=pure false:=by
 cases e<;>first|rfl|cases h
def Vj{k}{p}(h:uz e=true):swappedStores [.Tuple es k p] e env=pure none:=by
 cases e<;>first|rfl|cases h
def a87(h:EL e=true):∀whole,isTrue e env whole=(do let v <- whole;standAt e.pos;holding [v] (truthy v)):=by
 intro w;cases e<;>first|rfl|cases h
def X3{q}(h:xG e=some q):∃p pos,e=.Call (.Name q.1 p) q.2 [] pos:=by
 cases e<;>first|(cases h;done)|skip
 rename_i f as jn pos;cases f<;>first|(cases h;done)|skip
 cases jn<;>first|(cases h;done)|skip
 cases h;exact#[_,_,rfl]
def YC{f}{a}{k}{p}(h:Kg e=some (f,a,k,p)):e=.Call f a k p:=by
 cases e<;>cases h
 rfl
def bE9{m}{p}(h:Jh e=some (o,m,p)):e=.Attribute o m p:=by
 cases e<;>cases h
 rfl
def JX(h:DU e=some es):∃k p,e=.Tuple es k p:=by
 cases e with
 |Tuple ze k p=>cases h;exact#[k,p,rfl]
 |_=>cases h
def Wv(h:Ji e=true):∃es k p,e=.Tuple es k p:=by
 cases e<;>first|exact#[_,_,_,rfl]|cases h
def UQ{kvs}(h:c.Kl b=some kvs):∃x p,b=.Name x p/\c.gl x=true/\nC x=true/\c.gd.lookup x=some kvs:=by
 let#[x,hx,h2]:=ag.mp h;let#[p,rfl]:=EN hx;split at h2
 ·rename_i hc;rw[aP] at hc;exact#[x,p,rfl,hc.1,hc.2,h2]
 ·cases h2
def L8{f}(h:uE o=true):attributeBase o f env (eval o env)=eval o env:=by
 cases o<;>first|rfl|skip
 rename_i f as jn pos;cases f<;>first|rfl|skip
 cases as with
 |nil=>cases h
 |cons=>rfl
def Gg{env}:∀(names:List (Str×NameKind)) (acc:List (Str×Addr)),(∀y∈names,y.2=.free->∃a,env.cells.lookup y.1=some a)->(∀x a,acc.lookup x=some a->env.cells.lookup x=some a) ->
  ∃ cl,(forIn names acc λ(y:Str × NameKind) (cs:List (Str × Addr))=>(match y with
   |(name,kind)=>if(kind==NameKind.free)=true then do
     let __do_lift <- cellOf env name
     pure (ForInStep.yield ((name,__do_lift)::cs))
    else pure (ForInStep.yield cs):Sem (ForInStep (List (Str × Addr)))))=pure cl/\(∀ x a,cl.lookup x=some a->env.cells.lookup x=some a)/\(∀ y ∈ names,y.2=.free->∃ a,cl.lookup y.1=some a)/\∀ x a,acc.lookup x=some a->∃ a',cl.lookup x=some a'
 |[],acc,_,h2=>#[acc,rfl,h2,λy hy=>absurd hy #[_],λx a h=>#[a,h]]
 |(n,k)::r,acc,h1,h2=>by
  rw[List.forIn_cons];by_cases hk:k=.free
  ·subst hk;let#[a,ha]:=h1 (n,.free) #[_] rfl;have hc:cellOf env n=pure a:=by unfold cellOf;rw[ha]
   let ⟨cl,e,q1,q2,q3⟩:=Gg r ((n,a) :: acc) (λy hy=>h1 y (by simp [hy])) (λx b hb=>by
    rw[dC] at hb;cases hx:x==n with
    |true=>simp_all
    | false=>rw [hx] at hb;exact h2 x b hb)
   refine#[cl,?_,q1,λy hy hf=>?_,λx b hb=>?_]
   ·simp only[beq_self_eq_true,if_true,hc];exact e
   ·rcases aF.mp hy with z|z
    ·subst z;exact q3 n a #[_]
    ·exact q2 y z hf
   ·cases hx:x==n with
    |true=>exact q3 x a (by rw[dC,hx])
    |false=>exact q3 x b (by rw[dC,hx];exact hb)
  ·have hb:(k==NameKind.free)=false:=by simpa using hk
   let#[cl,e,q1,q2,q3]:=Gg r acc (λy hy=>h1 y (by simp[hy])) h2;refine#[cl,?_,q1,λy hy hf=>?_,q3]
   ·simp only[hb,Bool.false_eq_true,if_false];exact e
   ·rcases aF.mp hy with z|z
    ·simp_all
    ·exact q2 y z hf
def a95{P}{w}:Passes (gY P w) X (λ_ _ _=>False):=λ_ _ _ _ _ _ _ h=>by
 let#[_,_,_,_,_,_,_,z]:=h;exact z.elim
def Y7{env:Env}:∀{names:List (Str×NameKind)} {x:Str},names.lookup x=some .globalImplicit ->
  (names.map λ(n,k)=>if(k==NameKind.free&&env.scope.kind==.function&&env.kindOf n==some .cell) then(n,NameKind.cell) else(n,k)).lookup x=some .globalImplicit
 |[],_,h=>by simp at h
 |(n,k)::r,x,h=>by
  have ih:=@Y7 env r x;change List.lookup x ((if(k==NameKind.free&&env.scope.kind==.function&&env.kindOf n==some .cell)=true then(n,NameKind.cell) else(n,k))::_)=_;cases hx:x==n with
  |true =>
   simp only[List.lookup_cons,hx] at h;cases h;simp[List.lookup_cons,hx]
  |false =>
   simp only[List.lookup_cons,hx] at h;by_cases hc:(k==NameKind.free&&env.scope.kind==.function&&env.kindOf n==some .cell)=true
   ·rw[aH hc];simp only[List.lookup_cons,hx];exact ih h
   ·rw[az hc];simp only[List.lookup_cons,hx];exact ih h
def gZ.comp(C:gZ X c P Ξ)(h:c.xO sc=true):∃cl,cC X sc (frees sc++locals sc) (c.d6 sc) cl/\∀pi A s H fp,gZ (f6 X pi sc (frees sc++locals sc) cl A s H fp) (c.inner sc) P (oE Ξ.1):=by
 unfold j4.xO at h;simp only[Bool.and_eq_true,decide_eq_true_eq,List.all_eq_true] at h;let#[#[#[#[h1,h2],h3],h4],h5]:=h;have fr:∀x∈frees sc,(∃i,c.idx x=some i)/\sc.names.lookup x=some .free/\(c.nm.lookup x=some .cell\/c.nm.lookup x=some .free):=λx hx=>by
  have:=h5 x hx;rw[eP,dN] at this;simp only[decide_eq_true_eq] at this;exact#[this.1.1,this.1.2,this.2]
 have sJ:∀y∈sc.names,y.2=.free->∃a,X.env.cells.lookup y.1=some a:=λy hy hf=>by
  have hm:y.1∈frees sc:=ao.mpr #[y,aS.mpr #[hy,by simp[hf]],rfl];exact C.cells y.1 (fr y.1 hm).2.2
 let#[cl,e,q1,q2,_]:=Gg sc.names [] sJ (λx a h=>by simp at h);have h2:∀y∈sc.names,y.2=.cell->sc.names.lookup y.1=some .cell:=λy hy hl=>by
  have:=h2 y hy
  simp_all
 refine#[cl,#[h1,h2,λy hy hl=>?_,?_,q1,λx hx=>q2 (x,.free) (aO hx) rfl,h4,λi j lj=>?_,?_],λpi A s H fp=>?_]
 ·grind
 ·simp only[closureFor];rw[e]
  rfl
 ·unfold j4.d6 at lj;rw[ah] at lj;cases ex:(frees sc)[i]? with
  |none=>simp_all
  |some x =>
   rw[ex] at lj;have hx:x∈frees sc:=aJ ex;let#[#[k,hk],hl,hc]:=fr x hx;have hj:k=j:=by
    have:=aG lj;dsimp only at this;rw[hk] at this;exact this
   subst hj;refine#[x,?_,C.pO hk,hl,?_]
   ·rw[aK (aw.mp ex).1];exact ex
   ·rcases hc with z|z
    ·exact .inl (C.zf x z)
    ·exact C.Dw x z
 ·unfold j4.d6;simp
 ·refine#[rfl,h4,λx hx=>lookup_relabel_local hx,λx hx=>?_,λx hx=>M0 hx,λx hx=>Y7 hx,λx hx=>?_,λx _=>?_,rfl,C.units,(λ_=>PassesOwn.never),C.mono,C.con,C.blt,C.fns,C.cls,C.nN,C.oi,C.zd,a95,(λz=>by cases z),(λz=>by cases z),C.exc,C.DA,C.Du,(λz=>by cases z),λ_=>rfl]
  ·exact T8 hx
  ·rcases hx with hx|hx
   ·exact NT (.inl hx)
   ·exact NT (.inr (q2 (x,.free) (aO hx) rfl))
  ·exact aE ‹_›
def Q9(h:nC x=true):(x==("__debug__":Str))=false/\(x==("__classdict__":Str))=false/\x≠"__name__":=by
 unfold nC at h;simp only[Bool.and_eq_true,decide_eq_true_eq,beq_iff_eq] at h;exact#[h.1.1,h.1.2,h.2]
def Wq{t}(h:Ft.lookup x=some t):bootBuiltins x=some (.type t):=by
 have hm:=aO h;simp only[Ft,List.mem_cons,List.mem_nil_iff,or_false] at hm;rcases hm with z|z|z|z|z<;>(cases z;first|exact yp|exact PyProof.Rows.boot_bool|exact PyProof.Rows.boot_str|exact tK|exact vc|decide +kernel|rfl)
def Ww(hc:X.calm=true)(hu:X.A.units+100<cLine)(h:Fy.lookup x=some p):∃v,((∃id,v=.builtin id)\/∃T,v=.type T)/\bootBuiltins x=some v/\p9 X v (rN X.K p):=by
 have hm:=aO h;simp only[Fy,List.mem_cons,List.mem_nil_iff,or_false] at hm;rcases hm with z|z|z|z|z|z|z|z|z
 ·cases z;exact#[.builtin "len",.inl #[_,rfl],PySem.boot_len,Zc]
 ·cases z;exact#[.type "list",.inr #[_,rfl],by first|exact vc|decide +kernel,bC2 hc]
 ·cases z;exact#[.type "tuple",.inr #[_,rfl],by first|exact tK|decide +kernel,Wk]
 ·cases z;exact#[.builtin "isinstance",.inl #[_,rfl],by first|exact PyProof.Rows.boot_isinstance|decide +kernel,bD0]
 ·cases z;exact#[.builtin "all",.inl #[_,rfl],by first|exact PyProof.Rows.boot_all|decide +kernel,YA hc]
 ·cases z;exact#[.type "int",.inr #[_,rfl],by first|exact yp|decide +kernel,YU]
 ·cases z;exact#[.builtin "sorted",.inl #[_,rfl],by first|exact PyProof.Rows.boot_sorted|decide +kernel,Wa hc]
 ·cases z;exact#[.builtin "sum",.inl #[_,rfl],by first|exact PyProof.Rows.boot_sum|decide +kernel,bH8 hc]
 ·cases z;exact#[.type "set",.inr #[_,rfl],by first|exact PyProof.Rows.boot_set|decide +kernel,bC4 hc]
def a15(h:xJ.lookup x=some p):∃T id,PlainAttrs T/\Slot T x id/\typeOf (.builtin id)=pure (.type "method_descriptor")/\lE X id (rM X.K p) /\
  ∀{d:D} {v:V} {g:G} {ρ:List Addr} {H:Hp},Rl X.K ρ g H->f7 X.K ρ H d v->mJ p d g->nM X.K T v H:=by
 have hm:=aO h;simp only[xJ,List.mem_cons,List.mem_nil_iff,or_false] at hm;rcases hm with z|z
 ·cases z;exact#[_,_,fc,PySem.F.slot_list_clear,PySem.F.type_list_clear,UC,λR r h=>ty_list R r h]
 ·cases z;exact#[_,_,fc,yn,ym,Th,λR r h=>ty_list R r h]
def Xd(hu:X.A.units+100<cLine)(h:FI.lookup x=some p):∃T id,PlainAttrs T/\Slot T x id/\typeOf (.builtin id)=pure (.type "method_descriptor")/\lE X id (rM X.K p) /\
  ∀{d:D} {v:V} {g:G} {ρ:List Addr} {H:Hp},Rl X.K ρ g H->f7 X.K ρ H d v->mJ p d g->nM X.K T v H:=by
 have hm:=aO h;simp only[FI,List.mem_cons,List.mem_nil_iff,or_false] at hm;rcases hm with z|z|z
 ·cases z;exact#[_,_,fc,PySem.F.slot_list_append,PySem.F.type_list_append,Wu,λR r h=>ty_list R r h]
 ·cases z;exact#[_,_,fc,yn,ym,VB,λR r h=>ty_list R r h]
 ·cases z;exact#[_,_,PySem.F.plainAttrs_set,PySem.F.slot_set_add,PySem.F.type_set_add,Tu,λR r h=>ty_set R r h]
def NI{pos}{env}:∀{es:List Expr},(∀e∈es,gz e=true)->(backTo pos (starEach es env)).all (λx=>!x.1)=true
 |[],_=>rfl
 |e::es,h=>by
  rw[o8 (h e #[_])];have ih:=NI (pos:=pos) (env:=env) (es:=es) λx hx=>h x (by simp[hx]);unfold backTo at ih ⊢;rw[cx,gR,ih]
  rfl
def U0{pos}{env}:∀{es:List Expr},(∀e∈es,gz e=true)->(backTo pos (starEach es env)).any (·.1)=false
 |[],_=>rfl
 |e::es,h=>by
  rw[o8 (h e #[_])];have ih:=U0 (pos:=pos) (env:=env) (es:=es) λx hx=>h x (by simp[hx]);unfold backTo at ih ⊢;rw[cx,gQ,ih]
  rfl
def Ek:∀{es:List Expr} {m:ME},O8 r c es=some m->∀e∈es,gz e=true:=by
 intro es
 induction es with
 |nil=>intro m _ e he;simp_all
 |cons a es ih =>
  intro m h e he;unfold O8 at h;split at h
  ·let#[m1,h1,h]:=ag.mp h;let#[m2,h2,_]:=aa.mp h;rcases aF.mp he with z|z
   ·rw[z];assumption
   ·exact ih h2 e z
  ·cases h
structure rg(P:fb)(r:CF):Prop where
 e:∀X c Ξ,gZ X c P Ξ->∀e m,r.e c e=some m->PE X e (LE X.K Ξ (aW P m))
 t:∀X c Ξ,gZ X c P Ξ->∀e m,r.t c e=some m->PT X e (LT X.K Ξ (dP P m))
 s:∀X c Ξ,gZ X c P Ξ->c.wr=true->∀st m,r.s c st=some m->PS X st (LS X.K Ξ (wpS P m))
section
variable(S:rg P r)(C:gZ X c P Ξ){a:Expr}
include S C
def xu(h:c1 r c p a=some m):∃ma,PE X a (LE X.K Ξ (aW P ma))/\m=.prim p (.cons ma .nil):=by
 let#[ma,ha,rfl]:=aa.mp h;exact#[ma,S.e X c Ξ C _ _ ha,rfl]
def uB(h:c2 r c p a b=some m):∃ma mb,PE X a (LE X.K Ξ (aW P ma))/\PE X b (LE X.K Ξ (aW P mb))/\m=.prim p (.cons ma (.cons mb .nil)):=by
 let#[ma,ha,h]:=ag.mp h;let#[mb,hb,rfl]:=aa.mp h;exact#[ma,mb,S.e X c Ξ C _ _ ha,S.e X c Ξ C _ _ hb,rfl]
def vJ:∀{es:List Expr} {m:ME},O8 r c es=some m->PA X es (LA X.K Ξ (fJ P m)):=by
 intro es
 induction es with
 |nil=>intro m h;cases h;exact M9 C.mono
 |cons a es ih =>
  intro m h;unfold O8 at h;split at h
  ·rename_i bJ;let#[m1,h1,h]:=ag.mp h;let#[m2,h2,rfl]:=aa.mp h;exact F4 C.mono (S.e X c Ξ C _ _ h1) (ih h2) (o8 bJ)
  ·cases h
def Qr:∀{ks:List (Option Expr)} {vs:List Expr} {m:ME},Ah r c ks vs=some m->∃iq,mz X Ξ P ks vs m iq:=by
 intro ks
 induction ks with
 |nil=>intro vs m h;cases vs<;>first|(cases h;exact#[_,.nil])|cases h
 |cons k ks ih =>
  intro vs m h;cases k<;>first|(cases h;done)|skip
  cases vs<;>first|(cases h;done)|skip
  let#[m1,h1,h]:=ag.mp h;let#[m2,h2,h]:=ag.mp h;let#[m3,h3,rfl]:=aa.mp h;let#[iq,D]:=ih h3;exact#[_,.cons (S.e X c Ξ C _ _ h1) (S.e X c Ξ C _ _ h2) D]
def Qs{op}:∀{vs:List Expr} {m:ME},Gx r c op vs=some m->PE X (.BoolOp op vs pos) (LE X.K Ξ (aW P m)):=by
 intro vs
 induction vs with
 |nil=>intro m h;cases h
 |cons a vs ih =>
  intro m h;cases vs with
  |nil=>exact ZH (S.e X c Ξ C _ _ h)
  |cons b vs =>
   let#[m1,h1,h]:=ag.mp h;let#[m2,h2,rfl]:=aa.mp h;cases op
   ·exact Z' C.mono (S.e X c Ξ C _ _ h1) (ih h2)
   ·exact X' C.mono (S.e X c Ξ C _ _ h1) (ih h2)
def Qn{op}:∀{vs:List Expr} {m:ME},Gy r c op vs=some m->PW X (.BoolOp op vs pos) (LT X.K Ξ (dP P m)):=by
 intro vs
 induction vs with
 |nil=>intro m h;cases h
 |cons a vs ih =>
  intro m h;cases vs with
  |nil =>
   cases op
   ·exact Tr (S.t X c Ξ C _ _ h)
   ·exact ZU (S.t X c Ξ C _ _ h)
  |cons b vs =>
   let#[m1,h1,h]:=ag.mp h;let#[m2,h2,rfl]:=aa.mp h;cases op
   ·exact bH7 C.mono (S.t X c Ξ C _ _ h1) (ih h2)
   ·exact Yc C.mono (S.t X c Ξ C _ _ h1) (ih h2)
def b78(h:JY r c es=some m):jy X es (LT X.K Ξ (dP P m)):=by
 rcases es with _|⟨e,_|⟨_,_⟩⟩
 ·cases h;exact Ub C.mono
 ·exact MK (S.t X c Ξ C _ _ h)
 ·cases h
def uR(hw:c.wr=true):∀{Ho:List Stmt} {m:MS},A2 r c Ho=some m->jd X Ho (LS X.K Ξ (wpS P m)):=by
 intro es
 induction es with
 |nil=>intro m h;cases h;exact OD C.mono
 |cons a es ih =>
  intro m h;let#[m1,h1,h]:=ag.mp h;let#[m2,h2,rfl]:=aa.mp h;exact MV C.mono (S.s X c Ξ C hw _ _ h1) (ih h2)
end
def LD{t}(h:F6 e=true):swapsWithSole [t] e n env=pure false:=by
 exact EI h
def gZ.pS(C:gZ X c P Ξ)(hw:c.wr=true)(fA:X.stack=X.env::X.outer)(hf:X.env.frame=some X.env.locals)(pi:List (Addr×Obj))(D:L2.Ends)(hs:List ExceptHandler){o}{cW}{w}(BB:∀Z:L2.St,Z.length=X.N.length->(∀τ,o=some τ->Z=τ)->cW.length=Z.length/\∀(i:Nat) v,cW[i]?=some (some v)->Z[i]?=some (some v))(ho:w=true->o=none) :
  gZ (qY X pi (Au X pi D hs) o) { c with jF:=false,ji:=false,wr:=w } P (Aa X Ξ.1 D cW hs) :=
 #[C.N,C.nd,C.loc,C.zf,C.Dw,C.IH,C.cells,C.mr,C.calm,C.units,(λ_=>PassesOwn.looking),C.mono,C.con,C.blt,C.fns,C.cls,C.nN,C.oi,C.zd,Vo (C.sgn hw) fA hf BB (by rintro C H' ⟨C',e,z⟩;exact (by simp_all)),(λz=>by cases z),(λz=>by cases z),C.exc,C.DA,C.Du,C.code,ho]
def Oi{m}{apos}(hb:uE o=true)(hl:(apos.endLine==pos.line)=true)(hf:methodCallForm args.length (backTo pos (starEach args env)) (backToKw pos (keywordEach [] env))=true) :
  eval (.Call (.Attribute o m apos) args [] pos) env=(do
   let ov <- eval o env
   standAt apos.atName
   let (f,first) <- holding [ov] (getMethod ov m (do return (<- importBound o env).getD true))
   callWith pos f first (backTo pos (starEach args env)) (backToKw pos (keywordEach [] env))):=by
 have h1:eval (.Call (.Attribute o m apos) args [] pos) env=(do
   let ov <- attributeBase o m env (eval o env)
   standAt apos.atName
   methodCall o m apos pos env ov (args.length + 0) (backTo pos (starEach args env)) (backToKw pos (keywordEach [] env))):=rfl
 rw[h1,L8 hb];have h2:∀ ov,methodCall o m apos pos env ov (args.length + 0) (backTo pos (starEach args env)) (backToKw pos (keywordEach [] env))=(do
   let (f,first) <- holding [ov] (getMethod ov m (do return (<- importBound o env).getD true))
   callWith pos f first (backTo pos (starEach args env)) (backToKw pos (keywordEach [] env))):=λov=>by
  unfold methodCall calleeOf methodCallPos
  simp_all
 simp only[h2]
section
variable(S:rg P r)(C:gZ X c P Ξ){a d:Expr}
include C
def Zj(h:Fw c x=some m):PE X (.Name x pos) (LE X.K Ξ (aW P m)):=by
 unfold Fw at h;split at h
 ·rename_i hU;let#[d1,d2,d3]:=Q9 hU;split at h
  ·rename_i hv;let#[i,hi,rfl]:=aa.mp h;exact bJ3 (C.pO hi) (C.JL hv) d1 d2
  ·split at h
   ·rename_i hg;rcases orElse_some h with h|h
    ·let#[d,hd,rfl]:=aa.mp h;let#[v,u,hm,r,rr]:=C.con x d hd;exact uH (MC (C.E7 hg) hm r d1) rr
    ·split at h
     ·rename_i hb;let#[t,ht,rfl]:=aa.mp h;exact uH (v:=.ty t) (bA5 (C.E7 hg) (C.blt x hb) (Wq ht) rfl d3 d1) λ_ _=>.ty t
     ·cases h
   ·cases h
 ·cases h
omit C in
def Bq{k}{j}{d}(h:sZ k=some d):PE X (.Constant k j pos) (LE X.K Ξ (aW P (.lit d))):=by
 cases k<;>first|(cases h;done)|skip
 ·cases h;exact uH ZF λ_ _=>.br
 ·cases h;exact uH XG λ_ _=>.bl _
 ·cases h;exact uH ZD λ_ _=>.int _
 ·cases h;exact uH ZI λ_ _=>.str _
include S
def b77{op}(h:AW r c op a=some m):PE X (.UnaryOp op a pos) (LE X.K Ξ (aW P m)):=by
 unfold AW at h;split at h
 ·rename_i ho;subst ho;let#[ma,ha,rfl]:=aa.mp h;exact bJ5 C.mono (S.e X c Ξ C _ _ ha)
 ·let#[ma,ha,rfl]:=xu S C h;exact Ya C.mono ha
def Jx{ops}{bs}(h:xY r c a ops bs=some m):PE X (.Compare a ops bs pos) (LE X.K Ξ (aW P m))/\PT X (.Compare a ops bs pos) (LT X.K Ξ (dP P (.eB m))):=by
 unfold xY at h;split at h
 ·rename_i op b;split at h
  ·cases h
  ·rename_i hm;have hm:behindInMarks op b=false:=by simpa using hm
   let#[ma,mb,ha,hb,rfl]:=uB S C h;exact#[FN C.mono (bA3 (uF C.units op) ha hb hm),bI0 C.mono (MI (uF C.units op) ha hb hm)]
 ·split at h
  ·cases h
  ·rename_i hm;let#[ma,ha,h]:=ag.mp h;let#[mb,hb,h]:=ag.mp h;let#[md,hd,rfl]:=aa.mp h;exact#[VO C.mono C.units (S.e X c Ξ C _ _ ha) (S.e X c Ξ C _ _ hb) (S.e X c Ξ C _ _ hd) (by simpa using hm),Wb C.mono C.units (S.e X c Ξ C _ _ ha) (S.e X c Ξ C _ _ hb) (S.e X c Ξ C _ _ hd) (by simpa using hm)]
 ·cases h
def b80{lo hi st}{p2}(h:Hf r c a lo hi st=some m):PE X (.Subscript a (.Slice lo hi st p2) pos) (LE X.K Ξ (aW P m)):=by
 cases lo<;>cases hi<;>cases st<;>first|(cases h;done)|skip
 ·let#[ma,mb,ha,hb,rfl]:=uB S C h;exact VX C.mono ha hb
 ·let#[ma,mb,ha,hb,rfl]:=uB S C h;exact VY C.mono ha hb
def Xw(h:KI r c a b=some m):PE X (.Subscript a b pos) (LE X.K Ξ (aW P m)):=by
 rcases orElse_some h with h|h
 ·let#[q,hq,h]:=ag.mp h;have eb:∃p,b=.Slice q.1 q.2.1 q.2.2 p:=by cases b<;>first|(cases hq;exact#[_,rfl])|cases hq
  let#[p,rfl]:=eb;exact b80 S C h
 ·split at h
  ·rename_i hb;rcases orElse_some h with h|h
   ·let#[kvs,hk,h]:=ag.mp h;let#[mb,jw,rfl]:=aa.mp h;let#[x,p,rfl,hg,hd,hk]:=UQ hk;exact Tz C.mono (C.E7 hg) (Q9 hd).1 (C.Du x kvs hk) (S.e X c Ξ C _ _ jw) (Ke hb)
   ·let#[ma,mb,ha,jw,rfl]:=uB S C h;exact FN C.mono (JA (b01 C.units) ha jw (Ke hb))
  ·cases h
def b79(hg:c.gl x=true)(h:He r c x e=some m):PE X (.Call (.Name x px) [e] [] pos) (LE X.K Ξ (aW P m)):=by
 let#[q,hq,h']:=ag.mp h;clear h;have h:=h';clear h';let#[p,pos',rfl]:=X3 hq;let#[y,as]:=q;dsimp only at h ⊢;split at h
 ·rename_i hc;simp only[Bool.and_eq_true,decide_eq_true_eq] at hc;let#[#[#[#[rfl,rfl],hl],hr],ua]:=hc;rcases as with _|⟨a,_|⟨b,_|⟨_,_⟩⟩⟩
  ·cases h
  ·dsimp only at h;split at h
   ·rename_i ho;let#[ma,ha,rfl]:=xu S C h;exact VQ C.mono C.calm ha (C.E7 hg) (C.blt _ hl) (C.E7 ua) (C.blt _ hr) (o8 ho)
   ·cases h
  ·dsimp only at h;split at h
   ·rename_i ho;rw[aP] at ho;let#[ma,mb,ha,hb,rfl]:=uB S C h;exact VR C.mono C.calm ha hb (C.E7 hg) (C.blt _ hl) (C.E7 ua) (C.blt _ hr) (by rw[o8 ho.1,o8 ho.2];rfl) (o8 ho.2)
   ·cases h
  ·cases h
 ·split at h
  ·rename_i hc;simp only[Bool.and_eq_true,decide_eq_true_eq] at hc;let#[#[#[#[rfl,rfl],hl],hr],ua]:=hc;rcases as with _|⟨a,_|⟨_,_⟩⟩
   ·cases h
   ·dsimp only at h;split at h
    ·rename_i ho;let#[ma,ha,rfl]:=xu S C h;exact TL C.mono C.calm ha (C.E7 hg) (C.blt _ hl) (C.E7 ua) (C.blt _ hr) (o8 ho)
    ·cases h
   ·cases h
  ·split at h
   ·rename_i hc;simp only[Bool.and_eq_true,decide_eq_true_eq] at hc;let#[#[#[#[rfl,rfl],hl],hr],ua]:=hc;rcases as with _|⟨a,_|⟨_,_⟩⟩
    ·cases h
    ·dsimp only at h;split at h
     ·rename_i ho;let#[ma,ha,rfl]:=xu S C h;exact TH C.mono C.calm ha (C.E7 hg) (C.blt _ hl) (C.E7 ua) (C.blt _ hr) (o8 ho)
     ·cases h
    ·cases h
   ·cases h
def bB8(h:OQ r c x args=some m):PE X (.Call (.Name x px) args [] pos) (LE X.K Ξ (aW P m)):=by
 cases args with
 |nil =>
  have h2:FW c x=some m:=h;unfold FW at h2;split at h2
  ·rename_i hU;rw[aP] at hU;rcases orElse_some h2 with h2|h2
   ·let#[f,hf,rfl]:=aa.mp h2;let#[k,fa,fd,ps,F,hr,hm,hk]:=C.fns x f hf;exact VN C.mono C.pass F hr (C.E7 hU.2) hm hk (Q9 hU.1).1
   let#[f,hf,rfl]:=aa.mp h2;let#[k,C',fa,fd,ps,F,hr,hm,hC,jq,M]:=C.cls x f hf;exact VS C.mono C.pass F M hC jq hr (C.E7 hU.2) hm (Q9 hU.1).1
  ·cases h2
 |cons e es =>
  have h0:FX r c x e es=some m:=h;clear h;have h:=h0;clear h0;unfold FX at h;split at h
  ·rename_i hU;rw[aP] at hU;let#[d1,d2,d3]:=Q9 hU.1;rcases orElse_some h with h|h
   ·cases es with
    |nil=>exact b79 S C hU.2 h
    |cons _ _=>cases h
   ·let#[ms,si,h]:=ag.mp h;have ok:=Ek si;have pa:=vJ S C si;have fA:=o8 (env:=X.env) (es:=es) (ok e #[_]);have gC:=U0 (pos:=pos) (env:=X.env) (es:=es) λz hz=>ok z (by simp[hz]);rcases orElse_some h with h|h
    ·let#[f,hf,rfl]:=aa.mp h;let#[k,fa,fd,ps,F,hr,hm,hk]:=C.fns x f hf;exact Tv C.mono C.pass F hr (C.E7 hU.2) hm hk pa d1 fA gC
    ·rcases orElse_some h with h|h
     ·let#[f,hf,rfl]:=aa.mp h;let#[k,C',fa,fd,ps,F,hr,hm,hC,jq,M]:=C.cls x f hf;exact TJ C.mono C.pass F M hC jq hr (C.E7 hU.2) hm pa d1 fA gC
     ·split at h
      ·rename_i hb;let#[p,hp,rfl]:=aa.mp h;let#[v,hv,Cg,hc]:=Ww (X:=X) C.calm C.units hp;exact bJ9 C.mono hv hc (C.E7 hU.2) (C.blt x hb) Cg pa d3 d1 fA gC
      ·cases h
  ·cases h
omit S in
def Nt{m}:Ga X P Ξ.1 m (c.meths m):=λy f C' h hC=>by
 have hm:=aO h;unfold j4.meths at hm;let#[#[m',y',f'],h1,h2]:=ao.mp hm;let#[h3,h4]:=aS.mp h1;cases h2;have:m'=m:=by simpa using h4
 subst this;exact C.nN m' y f C' h3 hC
def bB9{mt}{apos}(h:FY r c o mt apos pos args=some m):PE X (.Call (.Attribute o mt apos) args [] pos) (LE X.K Ξ (aW P m)):=by
 unfold FY at h;split at h
 ·rename_i hc;simp only[Bool.and_eq_true,decide_eq_true_eq] at hc;let#[#[hb,hl],hn]:=hc;let#[mo,ho,h]:=ag.mp h;let#[ms,si,h]:=ag.mp h;have ok:=Ek si;have pa:=vJ S C si;have po:=S.e X c Ξ C _ _ ho;have hf:methodCallForm args.length (backTo pos (starEach args X.env)) (backToKw pos (keywordEach [] X.env))=true:=by
   unfold methodCallForm;rw[NI ok];have:args.length+0<30:=by omega
   show(true&&true&&decide (args.length+0<30))=true;rw[aE this]
   rfl
  by_cases nX:mt="index"
  ·subst nX;rw[aH rfl] at h;cases args with
   |nil=>cases h
   |cons e es =>
    cases h;exact VP C.mono C.units po pa (L8 hb) hf hl (o8 (env:=X.env) (es:=es) (ok e #[_])) (U0 (pos:=pos) (env:=X.env) (es:=es) λz hz=>ok z (by simp[hz]))
  rw[az nX] at h;by_cases yM:(decide (mt="pop")&&Jz o&&!args.isEmpty)=true
  ·rw[aH yM] at h;obtain rfl:=aG h;simp only[Bool.and_eq_true,decide_eq_true_eq] at yM;let#[#[rfl,_],fM]:=yM;cases args with
   |nil=>cases fM
   |cons e es =>
    exact MQ C.mono tJ yo PySem.F.type_dict_pop bD8 (λR r h=>ty_dict R r h) po pa (L8 hb) hf hl (o8 (env:=X.env) (es:=es) (ok e #[_])) (U0 (pos:=pos) (env:=X.env) (es:=es) λz hz=>ok z (by simp[hz]))
  rw[az yM] at h;cases args with
  |nil =>
   cases si;by_cases h0:(xJ.lookup mt).isSome=true
   ·rw[aH (by rw[h0];rfl)] at h;let#[p,hp,rfl]:=aa.mp h;let#[T,id,Bm,sl,ty,Br,hk]:=a15 (X:=X) hp;exact VT C.mono Bm sl ty Br hk po (L8 hb) hl
   rw[az (by rw[aP];exact λz=>h0 z.2)] at h;split at h
   ·cases h
   ·cases h;exact a76 C.mono C.pass (Nt C) po (Oi hb hl hf)
  |cons e es =>
   have fA:=o8 (env:=X.env) (es:=es) (ok e #[_]);have gC:=U0 (pos:=pos) (env:=X.env) (es:=es) λz hz=>ok z (by simp[hz]);rw[az #[_]] at h;split at h
   ·rename_i p hp;cases h;let#[T,id,Bm,sl,ty,Br,hk]:=Xd (X:=X) C.units hp;exact MQ C.mono Bm sl ty Br hk po pa (L8 hb) hf hl fA gC
   ·cases h;exact VU C.mono C.pass (Nt C) po pa fA gC (Oi hb hl hf)
 ·cases h
def HG{tg}(h:Aj r c tg e=some m):PI X tg e (LI X.K Ξ (gE P m)):=by
 rcases orElse_some h with h|h
 ·let#[q,hq,h']:=ag.mp h;rename_i h0;clear h h0;have h:=h';clear h';let#[p,pos',rfl]:=X3 hq;let#[y,as]:=q;dsimp only at h ⊢;split at h
  ·rename_i hy;subst hy;rcases as with _|⟨a,_|⟨_,_⟩⟩
   ·cases h
   ·dsimp only at h;split at h
    ·rename_i hc;simp only[Bool.and_eq_true] at hc;let#[#[#[hg,hb],ho],ht]:=hc;let#[ma,ha,rfl]:=aa.mp h;let#[es,k,tp,rfl]:=Wv ht;exact TU C.mono (S.e X c Ξ C _ _ ha) (C.E7 hg) (C.blt _ hb) (o8 ho)
    ·cases h
   ·cases h
  ·split at h
   ·rename_i hy;subst hy;rcases as with _|⟨a,_|⟨_,_⟩⟩
    ·cases h
    ·dsimp only at h;split at h
     ·rename_i hc;simp only[Bool.and_eq_true] at hc;let#[#[hg,hb],ho]:=hc;let#[ma,ha,rfl]:=aa.mp h;exact bI9 C.mono (S.e X c Ξ C _ _ ha) (C.E7 hg) (C.blt _ hb) (o8 ho)
     ·cases h
    ·cases h
   split at h
   ·rename_i hy;subst hy;rcases as with _|⟨a,_|⟨b,_|⟨_,_⟩⟩⟩
    ·cases h
    ·dsimp only at h;split at h
     ·rename_i hc;simp only[Bool.and_eq_true] at hc;let#[#[hg,hb],ho]:=hc;let#[ma,ha,rfl]:=aa.mp h;exact TV C.mono (S.e X c Ξ C _ _ ha) (C.E7 hg) (C.blt _ hb) (o8 ho)
     ·cases h
    ·dsimp only at h;split at h
     ·rename_i hc;simp only[Bool.and_eq_true] at hc;let#[#[#[hg,hb],ho],kQ]:=hc;let#[ma,ha,h]:=ag.mp h;let#[mb,jw,rfl]:=aa.mp h;exact TX C.mono (S.e X c Ξ C _ _ ha) (S.e X c Ξ C _ _ jw) (C.E7 hg) (C.blt _ hb) (by rw[o8 ho,o8 kQ];rfl) (o8 kQ)
     ·cases h
    ·cases h
   ·cases h
 ·split at h
  ·let#[ma,ha,rfl]:=aa.mp h;exact bI8 C.mono (S.e X c Ξ C _ _ ha)
  ·cases h
omit S in
def uS(h:c.oA e i=true):∃x p,e=.Name x p/\PE X e (oC i):=by
 unfold j4.oA at h;cases e<;>first|(cases h;done)|skip
 rename_i x p;have h:(nC x&&c.rq x&&decide (c.idx x=some i))=true:=h;simp only[Bool.and_eq_true,decide_eq_true_eq] at h;let#[#[h1,h2],h3]:=h;let#[d1,d2,_]:=Q9 h1;exact#[x,p,rfl,Oy (C.pO h3) (C.JL h2) d1 d2]
omit S in
def b82{ifs}(h:Hg c ifs=true):jy X ifs (xp (qh (Bj X.K true) (oC 0) (oC 3))):=by
 rcases ifs with _|⟨e,_|⟨_,_⟩⟩
 ·cases h
 ·cases e<;>first|(cases h;done)|skip
  rename_i a ops bs p;have h:(decide (ops=[.NotIn])&&c.oA a 0&&Hh c bs)=true:=h;simp only[Bool.and_eq_true,decide_eq_true_eq] at h;let#[#[rfl,h1],h2]:=h;rcases bs with _|⟨b,_|⟨_,_⟩⟩<;>first|(cases h2;done)|skip
  have h2:c.oA b 3=true:=h2;let#[_,_,rfl,p1]:=uS C h1;let#[_,_,rfl,p2]:=uS C h2;exact MK (MI aM8 p1 p2 rfl)
 ·cases h
def b84{kx vx}{gens}(h:AZ r c kx vx gens sc=some m):PE X (.DictComp kx vx gens sc pos) (LE X.K Ξ (aW P m)):=by
 unfold AZ at h;rcases gens with _|⟨⟨tg,it,ifs,qq⟩,_|⟨_,_⟩⟩
 ·cases h
 ·dsimp only at h;split at h
  ·rename_i hs;simp only[Bool.and_eq_true,decide_eq_true_eq] at hs;let#[#[#[#[#[hs,rfl],h3],hk],hv],ht]:=hs;let#[q,hq,h]:=ag.mp h;let#[w,hw,h]:=ag.mp h;split at h
   ·rename_i hx;simp only[Bool.and_eq_true,decide_eq_true_eq] at hx;let#[#[#[#[x1,x2],x3],x4],x5]:=hx;let#[es,he,h]:=ag.mp h;split at h
    ·rename_i lg;have lg:=aM lg;split at h
     ·rename_i j hj;let#[mo,HX,rfl]:=aa.mp h;let#[cl,Sc,I]:=C.comp hs;rw[hj] at Sc;let#[f,as,ks,ip]:=q;obtain rfl:=YC hq;let#[o,mm,ap]:=w;obtain rfl:=bE9 hw;let#[kk,tp,rfl]:=JX he;dsimp only at x1 x2 x3 x4 x5 HX;obtain rfl:=et.mp x1;obtain rfl:=et.mp x2;subst x3;exact Tw C.mono Sc h3 C.calm (S.e X c Ξ C _ _ HX) (L8 x4) x5 (λpi A s H fp=>FK (I pi A s H fp).calm (EK ((I pi A s H fp).oZ rfl) ((I pi A s H fp).slots lg)) (M8 ((I pi A s H fp).slots lg)).1 (M8 ((I pi A s H fp).slots lg)).2) (λpi A s H fp=>b82 (I pi A s H fp) ht)
       (λpi A s H fp=>let ⟨_,_,_,z⟩:=uS (I pi A s H fp) hk;z) (λpi A s H fp=>let ⟨_,_,_,z⟩:=uS (I pi A s H fp) hv;z)
     ·cases h
    ·cases h
   ·cases h
  ·cases h
 ·cases h
def Gn{elt}{gens}(h:tB r c elt gens sc=some m):∃tg it ifs t mi mc me cl,gens=[#[tg,it,ifs,0]]/\m=.comp (c.d6 sc) (frees sc++locals sc).length t mi mc me/\gz it=true /\
  cC X sc (frees sc++locals sc) (c.d6 sc) cl/\PI X tg it (LI X.K Ξ (gE P mi))/\(∀pi A s H fp,PG (f6 X pi sc (frees sc++locals sc) cl A s H fp) tg (LG X.K t)) /\
   (∀pi A s H fp,jy (f6 X pi sc (frees sc++locals sc) cl A s H fp) ifs (LT X.K (oE Ξ.1) (dP P mc)))/\(∀pi A s H fp,PE (f6 X pi sc (frees sc++locals sc) cl A s H fp) elt (LE X.K (oE Ξ.1) (aW P me))):=by
 unfold tB at h;rcases gens with _|⟨⟨tg,it,ifs,qq⟩,_|⟨_,_⟩⟩
 ·cases h
 ·dsimp only at h;split at h
  ·rename_i hs;simp only[Bool.and_eq_true,decide_eq_true_eq] at hs;let#[#[hs,rfl],hit]:=hs;let#[t,h1,h]:=ag.mp h;let#[mi,h2,h]:=ag.mp h;let#[mc,h3,h]:=ag.mp h;let#[me,h4,rfl]:=aa.mp h;let#[cl,Sc,I]:=C.comp hs;exact#[tg,it,ifs,t,mi,mc,me,cl,rfl,rfl,hit,Sc,HG S C h2,λpi A s H fp=>(I pi A s H fp).KG rfl h1,λpi A s H fp=>b78 S (I pi A s H fp) h3,λpi A s H fp=>S.e _ _ _ (I pi A s H fp) elt me h4]
  ·cases h
 ·cases h
omit S in
def b81{f}{jn}(h:yv c f args jn=some m):PE X (.Call f args jn pos) (LE X.K Ξ (aW P m)):=by
 unfold yv at h;cases h
def Qq:∀e m,JF r c e=some m->PE X e (LE X.K Ξ (aW P m)):=by
 intro e m h;cases e with
 |Name x p=>exact Zj C h
 |Constant k j p =>
  let#[d,hd,rfl]:=aa.mp (show(sZ k).map ME.lit=some m from h);exact Bq hd
 |BinOp a op b p =>
  let#[ma,mb,ha,hb,rfl]:=uB S C h;exact FN C.mono (XI (Zn op) ha hb)
 |UnaryOp op a p=>exact b77 S C h
 |Compare a ops bs p=>exact(Jx S C h).1
 |BoolOp op vs p=>exact Qs S C h
 |IfExp t a b p =>
  let#[mt,ht,h]:=ag.mp h;let#[ma,ha,h]:=ag.mp h;let#[mb,hb,rfl]:=aa.mp h;exact bJ6 C.mono (S.t X c Ξ C _ _ ht) (S.e X c Ξ C _ _ ha) (S.e X c Ξ C _ _ hb)
 |Tuple es k p =>
  let#[ma,ha,rfl]:=aa.mp h;exact bJ4 C.mono (vJ S C ha)
 |List es p =>
  let#[ma,ha,rfl]:=aa.mp h;exact OB C.mono (vJ S C ha)
 |Subscript a b p=>exact Xw S C h
 |Dict ks vs p =>
  have h2:(if ks.isEmpty&&vs.isEmpty then some (ME.prim .Y5 .nil) else if decide (ks.length<=15) then(Ah r c ks vs).map .oo else none)=some m:=h;split at h2
  ·rename_i hc;cases ks<;>cases vs<;>first|(cases hc;done)|skip
   cases h2;exact Tx
  ·rename_i hc;split at h2
   ·rename_i hl;let#[ms,hm,rfl]:=aa.mp h2;let#[iq,D]:=Qr S C hm;refine bJ8 C.mono D (λz=>hc ?_) (aM hl);have:=D.len.2;subst z;cases vs<;>first|rfl|cases this
   ·cases h2
 |Attribute o f p =>
  have h2:(if uE o then c1 r c (.fld f) o else none)=some m:=h;split at h2
  ·rename_i hb;let#[ma,ha,rfl]:=xu S C h2;exact bJ7 C.mono ha (L8 hb)
  ·cases h2
 |Call f args jn pos =>
  have h1:((AX r c f args jn).orElse λ_=>(yv c f args jn).orElse λ_=>Fv r c f args jn pos)=some m:=h;rcases orElse_some h1 with h2|h2
  ·unfold AX at h2;rcases args with _|⟨a,_|⟨_,_⟩⟩
   ·cases h2
   ·dsimp only at h2;split at h2
    ·rename_i hk;simp only[Bool.and_eq_true,decide_eq_true_eq] at hk;let#[#[#[hk,hf],mW],hb]:=hk;cases jn<;>first|(cases hk;done)|skip
     let#[q,hq,h3]:=ag.mp h2;let#[m1,h4,h5]:=ag.mp h3;cases f<;>first|(cases hf;done)|skip
     cases a<;>first|(cases hq;done)|skip
     cases hf;cases hq;let#[tg,it,ifs,t,mi,mc,me,cl,eg,rfl,hit,Sc,q1,q2,q3,q4]:=Gn S C h4;dsimp only at eg;subst eg;cases h5;exact VW C.mono Sc C.calm q1 q2 q3 q4 (zM hit) (C.E7 mW) (C.blt _ hb)
    ·cases h2
   ·cases h2
  clear h h1;rcases orElse_some h2 with h3|h3
  ·exact b81 C h3
  clear h2;unfold Fv at h3;split at h3
  ·rename_i hk;cases jn<;>first|(cases hk;done)|skip
   cases f with
   |Name x p=>exact bB8 S C h3
   |Attribute o a p=>exact bB9 S C h3
   |_=>cases h3
  ·cases h3
 |Set es k p =>
  have h2:Eh c es k=some m:=h;unfold Eh at h2;split at h2
  ·rename_i hc;rw[aP] at hc;obtain rfl:=aM hc.2;split at h2
   ·cases h2;exact TK C.mono (C.code hc.1)
   ·cases h2
  ·cases h2
 |ListComp elt gens sc p =>
  let#[tg,it,ifs,t,mi,mc,me,cl,rfl,rfl,hit,Sc,q1,q2,q3,q4]:=Gn S C h;exact(MB Sc C.calm q1 q2 q3 q4 (zM hit)).imp λZ H Q h=>Nh C.mono Z H Q h
 |_=>cases h
def Qo:∀e m,stepT r c e=some m->PT X e (LT X.K Ξ (dP P m)):=by
 intro e m h;have plain:∀{e:Expr} {m:ME},(if EL e then(r.e c e).map ME.eB else none)=some m->PT X e (LT X.K Ξ (dP P m)):=λ{e m} h=>by
  split at h
  ·rename_i hp;let#[ma,ha,rfl]:=aa.mp h;exact bH9 C.mono (S.e X c Ξ C _ _ ha) (a87 hp)
  ·cases h
 cases e with
 |UnaryOp op a p =>
  have h2:(if op=.Not then(r.t c a).map ME.de else none)=some m:=h;split at h2
  ·rename_i ho;subst ho;let#[ma,ha,rfl]:=aa.mp h2;exact bI1 C.mono (S.t X c Ξ C _ _ ha)
  ·cases h2
 |BoolOp op vs p=>exact(Qn S C h).pt
 |Compare a ops bs p =>
  let#[ma,ha,rfl]:=aa.mp (show(xY r c a ops bs).map ME.eB=some m from h);exact(Jx S C ha).2
 |_=>exact plain h
end
def a46{α:Type}{l:List α}{x:α}(h:JW l=some x):l=[x]:=by
 rcases l with _|⟨a,_|⟨_,_⟩⟩<;>cases h
 rfl
section
def Ng(h:Jn e=some m):PE X e (LE X.K Ξ (aW P m))/\gz e=true:=by
 cases e<;>first|(cases h;done)|skip
 let#[d,hd,rfl]:=aa.mp (show(sZ _).map ME.lit=some m from h);exact#[Bq hd,rfl]
def WC(hP:j8 P):∀{es:List Expr} {m:ME},Fz es=some m->PA X es (LA X.K Ξ (fJ P m)):=by
 intro es
 induction es with
 |nil=>intro m h;cases h;exact M9 hP
 |cons e es ih =>
  intro m h;let#[m1,h1,h]:=ag.mp h;let#[m2,h2,rfl]:=aa.mp h;exact F4 hP (Ng h1).1 (ih h2) (o8 (Ng (X:=X) (Ξ:=Ξ) (P:=P) h1).2)
def UH(hP:j8 P)(h:Jm e=some m):PE X e (LE X.K Ξ (aW P m)):=by
 cases e<;>first|(cases h;done)|skip
 ·let#[d,hd,rfl]:=aa.mp (show(sZ _).map ME.lit=some m from h);exact Bq hd
 ·let#[ms,hm,rfl]:=aa.mp h;exact OB hP (WC hP hm)
def a47{h}{q}(hq:JV h=some q):∃p p1 p2,h=.ExceptHandler (some (.Name q.1 p)) none [.Return (some q.2) p1] p2:=by
 let#[t,n,b,p0]:=h;cases n with
 |some _=>cases hq
 |none =>
  let#[t,rfl,hq]:=ag.mp (show t.bind _=some q from hq);let#[y,hy,hq]:=ag.mp hq;let#[e,he,rfl]:=aa.mp hq;let#[p,rfl]:=EN hy;rcases b with _|⟨s,_|⟨_,_⟩⟩
  ·cases he
  ·cases s<;>first|(cases he;done)|(cases he;exact#[_,_,_,rfl])
  ·cases he
def UG(C:gZ X c P Ξ)(BY:xr X Ξ.2):∀{hs:List ExceptHandler} {ms:List (Str×ME)},Ai c hs=some ms->lU X Ξ P hs ms:=by
 intro hs
 induction hs with
 |nil=>intro ms h;cases h;exact .nil BY
 |cons hd hs ih =>
  intro ms h;let#[q,hq,h']:=ag.mp h;clear h;have h:=h';clear h';let#[p,p1,p2,rfl]:=a47 hq;let#[y,e]:=q;dsimp only at h ⊢;split at h
  ·rename_i hc;simp only[Bool.and_eq_true] at hc;let#[m,h1,h]:=ag.mp h;let#[HI,h2,rfl]:=aa.mp h;let#[C',hm,hi,_]:=C.exc y hc.1.1;refine .cons (C.E7 hc.1.2) (Q9 hc.2).1 hm (λx C1 hx h1=>C.DA x y C1 C' ?_ hc.1.1 h1 hi) (λea=>UH (X:=L0 X ea) C.mono h1) (ih h2);rw[C.zd] at hx;simpa using hx
  ·cases h
def aT5{e f}{q}(h:Ma e f=some q):f=none/\∃p p',e=some (.Call (.Name q.1 p) (q.2.1::q.2.2) [] p'):=by
 cases f with
 |some _=>cases h
 |none =>
  let#[t,rfl,h]:=ag.mp (show e.bind _=some q from h);let#[z,hz,h]:=ag.mp h;let#[p,p',rfl]:=X3 hz;let#[x,as]:=z;cases as with
  |nil=>cases h
  |cons a as=>cases h;exact#[rfl,_,_,rfl]
def Mm(C:gZ X c P Ξ){f}:zg X.K f (c.Ay f):=λy C' h hC=>by
 let#[#[f',y'],h1,h2]:=ao.mp h;let#[h3,h4]:=aS.mp h1;cases h2;have:f'=f:=by simpa using h4
 subst this;exact C.oi f' y' C' h3 hC
variable(S:rg P r)(C:gZ X c P Ξ)
include S C
def b83(hw:c.wr=true)(h:Ba r c e=some m)(hl:Loc X.env.scope x/\(X.fn x=true\/X.env.scope.names.lookup x=some .local))(hi:X.N[i]?=some x):PS X (.Assign [.Name x px] e pos) (LS X.K Ξ (wpS P (.set i m))):=by
 cases e<;>first|(cases h;done)|skip
 rename_i kx vx gens sc p
 replace h:AY r c kx vx gens sc=some m:=h
 unfold AY at h;rcases gens with _|⟨⟨tg,it,ifs,qq⟩,_|⟨_,_⟩⟩
 ·cases h
 ·dsimp only at h;split at h
  ·rename_i hs;simp only[Bool.and_eq_true,decide_eq_true_eq] at hs;let#[#[#[#[#[#[hs,rfl],h3],hk],hv],ht],Ru]:=hs;let#[q,hq,h]:=ag.mp h;let#[a,ha,h]:=ag.mp h;let#[es,he,h]:=ag.mp h;split at h
   ·rename_i hc;simp only[Bool.and_eq_true,decide_eq_true_eq] at hc;let#[#[#[#[h1,hg],hb],ho],lg]:=hc;let#[ma,QX,rfl]:=aa.mp h;let#[ep,ip,rfl]:=X3 hq;let#[y,as]:=q;dsimp only at h1 ha;subst h1;obtain rfl:=a46 ha;let#[cl,Sc,I]:=C.comp hs;rw[et.mp Ru] at Sc;obtain rfl:=et.mp ht;let#[kk,tp,rfl]:=JX he;exact Ue C.mono Sc h3 C.calm (S.e X c Ξ C _ _ QX) (C.E7 hg) (C.blt _ hb) (o8 ho) (λpi A s H fp=>FK (I pi A s H fp).calm (EK ((I pi A s H fp).oZ rfl) ((I pi A s H fp).slots lg)) (M8 ((I pi A s H fp).slots lg)).1 (M8 ((I pi A s H fp).slots lg)).2)
     (λpi A s H fp=>let ⟨_,_,_,z⟩:=uS (I pi A s H fp) hk;z) (λpi A s H fp=>let ⟨_,_,_,z⟩:=uS (I pi A s H fp) hv;z) (C.oZ hw) hi hl.1 hl.2
   ·cases h
  ·cases h
 ·cases h
def Xv{tg}{m}(hw:c.wr=true)(hS:∀e m,r.e c e=some m->F6 e=false->∃elt gens sc p,e=.ListComp elt gens sc p/\∃r',rg P r'/\tB r' c elt gens sc=some m)(hT:∀a b k p m,r.e c (.Tuple [a,b] k p)=some m->∃r' ms,rg P r'/\O8 r' c [a,b]=some ms/\m=.prim .tup ms)(h:Kx r c tg e=some m):PS X (.Assign [tg] e pos) (LS X.K Ξ (wpS P m)):=by
 cases tg with
 |Name x px =>
  have h2:(if c.A6 x then(c.idx x).bind λi=>((r.e c e).orElse λ_=>Ba r c e).map λm=>MS.set i m else none)=some m:=h;split at h2
  ·rename_i hl;let#[i,hi,h2]:=ag.mp h2;let#[me,he,rfl]:=aa.mp h2;rcases orElse_some he with he|he
   rotate_left
   ·exact b83 S C hw he (C.A6 hl) (C.pO hi)
   cases hn:F6 e with
   |true=>exact OG C.mono (FL (C.oZ hw) (C.pO hi) (C.A6 hl).1 (S.e X c Ξ C _ _ he) (EI hn) (C.A6 hl).2)
   |false =>
    let#[elt,gens,sc,p,rfl,r',S',hx]:=hS e me he hn;let#[tg,it,ifs,t,mi,mc,me,cl,rfl,rfl,hit,Sc,q1,q2,q3,q4]:=Gn S' C hx;refine OG C.mono ?_;exact(aS0 Sc C.calm q1 q2 q3 q4 (zM hit) (C.oZ hw) (C.pO hi) (C.A6 hl).1 (C.A6 hl).2).imp λN Z H h=>Nh C.mono Z H _ h
  ·cases h2
 |Tuple es k pt =>
  have h0:((Fx es).elim (if uz e&&F6 e then(c.slots es).bind λis=>(r.e c e).map λm=>MS.nL (.many is) m else none) λq=>if F6 e&&gz q.2.1&&gz q.2.2.2 then(r.e c q.1).bind λm1=>(r.e c q.2.1).bind λn1=>(r.e c q.2.2.1).bind λm2=>(r.e c q.2.2.2).bind λn2=>(r.e c e).map λm=>MS.yz m1 n1 m2 n2 m else none)=some m:=h;cases hq:Fx es with
  |some q =>
   rw[hq] at h0;dsimp only[Option.elim] at h0;split at h0
   ·cases hq
   ·cases h0
  |none =>
  rw[hq] at h0;have h2:(if uz e&&F6 e then(c.slots es).bind λis=>(r.e c e).map λm=>MS.nL (.many is) m else none)=some m:=h0;split at h2
  ·rename_i hn;rw[aP] at hn;let#[is,hs,h2]:=ag.mp h2;let#[me,he,rfl]:=aa.mp h2;exact bH4 C.mono (Oz (S.e X c Ξ C _ _ he) (MU C.calm (C.oZ hw) (C.slots hs)) (LD hn.2) (Vj hn.1))
  ·cases h2
 |Subscript o i pt =>
  have h2:(if gz i&&F6 e then(r.e c o).bind λmo=>(r.e c i).bind λmi=>(r.e c e).map λm=>MS.cS mo mi m else none)=some m:=h;split at h2
  ·rename_i hn;rw[aP] at hn;let#[mo,ho,h2]:=ag.mp h2;let#[mi,hi,h2]:=ag.mp h2;let#[me,he,rfl]:=aa.mp h2;exact Wi C.mono C.units (S.e X c Ξ C _ _ he) (S.e X c Ξ C _ _ ho) (S.e X c Ξ C _ _ hi) (LD hn.2) (bB6 hn.1)
  ·cases h2
 |Attribute o f pt =>
  let#[mo,ho,h]:=ag.mp h;let#[me,he,rfl]:=aa.mp h;exact Uh C.mono (Mm C) (S.e X c Ξ C _ _ ho) (by cases e<;>first|exact b84 S C he|exact S.e X c Ξ C _ _ he) (by cases e<;>rfl)
 |_=>cases h
def Qp(hw:c.wr=true)(hS:∀e m,r.e c e=some m->F6 e=false->∃elt gens sc p,e=.ListComp elt gens sc p/\∃r',rg P r'/\tB r' c elt gens sc=some m)(hT:∀a b k p m,r.e c (.Tuple [a,b] k p)=some m->∃r' ms,rg P r'/\O8 r' c [a,b]=some ms/\m=.prim .tup ms) :
  ∀st m,JG r c st=some m->PS X st (LS X.K Ξ (wpS P m)):=by
 intro st m h;have hP:=C.mono;cases st with
 |AugAssign tg op e p =>
  cases tg with
  |Attribute o f tp =>
   have h2:(if decide (op=Operator.Add) then(r.e c o).bind λmo=>(r.e c e).map λm=>MS.kj f (c.Ay f) mo m else none)=some m:=h;split at h2
   ·rename_i ho;obtain rfl:=aM ho;let#[mo,ho,h2]:=ag.mp h2;let#[me,he,rfl]:=aa.mp h2;exact Uc C.mono (Mm C) (S.e X c Ξ C _ _ ho) (S.e X c Ξ C _ _ he)
   ·cases h2
  |Name x tp =>
   have h2:(if c.A6 x then(Jj op).bind λp=>(c.idx x).bind λi=>(r.e c e).map λm=>MS.kW i p m else none)=some m:=h;split at h2
   ·rename_i hl;let#[p,hp,h2]:=ag.mp h2;let#[i,hi,h2]:=ag.mp h2;let#[me,he,rfl]:=aa.mp h2;refine Ud C.mono ?_ (C.oZ hw) (C.pO hi) (C.A6 hl).1 (C.A6 hl).2 (S.e X c Ξ C _ _ he);cases op<;>first|(cases hp;done)|skip
    ·cases hp;exact .inl #[rfl,rfl]
    ·cases hp;exact .inr #[rfl,rfl]
   ·cases h2
  |_=>cases h
 |Expr e p =>
  have h2:(if F6 e then(r.e c e).map MS.expr else none)=some m:=h;split at h2
  ·rename_i hn;let#[me,he,rfl]:=aa.mp h2;exact Ug hP (S.e X c Ξ C _ _ he) (EI hn)
  ·cases h2
 |Assign Be e p =>
  rcases Be with _|⟨tg,_|⟨_,_⟩⟩
  ·cases h
  ·exact Xv S C hw hS hT h
  ·cases h
 |If t a b p =>
  let#[mt,ht,h]:=ag.mp h;let#[ma,ha,h]:=ag.mp h;let#[mb,hb,rfl]:=aa.mp h;exact Yd hP (S.t X c Ξ C _ _ ht) (uR S C hw ha) (uR S C hw hb)
 |For tg it body pJ p =>
  have h2:(if c.mr&&(pJ.isEmpty&&gz it) then(c.tg tg).bind λt=>(Aj r c tg it).bind λmi=>(A2 r c body).map λmb=>MS.fg t mi mb else none)=some m:=h;split at h2
  ·rename_i hc;rw[aP,aP] at hc;cases pJ<;>first|(cases hc.2.1;done)|skip
   let#[t,h1,h2]:=ag.mp h2;let#[mi,h3,h2]:=ag.mp h2;let#[mb,h4,rfl]:=aa.mp h2;exact bH6 hP (C.own hc.1) C.calm (HG S C h3) (C.KG hw h1) (uR S C hw h4) (zM hc.2.2)
  ·cases h2
 |While t body pJ p =>
  have h2:(if c.mr&&pJ.isEmpty then(r.t c t).bind λmt=>(A2 r c body).map λmb=>MS.kI mt mb else none)=some m:=h;split at h2
  ·rename_i hc;rw[aP] at hc;cases pJ<;>first|(cases hc.2;done)|skip
   let#[mt,h1,h2]:=ag.mp h2;let#[mb,h4,rfl]:=aa.mp h2;exact Wj hP (C.own hc.1) (S.t X c Ξ C _ _ h1) (uR S C hw h4)
  ·cases h2
 |Return e p =>
  cases e with
  |none=>cases h;exact(To (X:=X)).imp (by rintro N cq H ⟨Z,g,ρ,s,R,h⟩;exact LQ.now h R .br)
  |some e =>
   let#[me,he,rfl]:=aa.mp (show(r.e c e).map (λm=>MS.ret (toR c e m))=some m from h);refine OF hP ?_;exact S.e X c Ξ C _ _ he
 |Raise e f p =>
  let#[q,hq,h2]:=ag.mp h;clear h;let#[rfl,px,p2,rfl]:=aT5 hq;let#[x,e,es]:=q;dsimp only at h2 ⊢;split at h2
  ·rename_i hc;simp only[Bool.and_eq_true] at hc;let#[ma,ha,rfl]:=aa.mp h2;have ok:=Ek ha;let#[C',hm,hi,B,nI,iI,bm,O,FB]:=C.exc x hc.1.1.2;exact Wh hP C.calm O FB (C.E7 hc.1.2) (vJ S C ha) (C.jF hc.1.1.1) (by rw[C.zd];simpa using hc.1.1.2) hi (o8 (ok e #[_])) (U0 λz hz=>ok z (by simp[hz])) (Q9 hc.2).1
  ·cases h2
 |Try body hs el fi p =>
  have h2:(if c.ji&&!hs.isEmpty&&el.isEmpty&&fi.isEmpty then(A2 r { c with jF:=false,ji:=false,wr:=true } body).bind λmb=>(Ai c hs).map λms=>MS.pS mb ms else none)=some m:=h;split at h2
  ·rename_i hc;simp only[Bool.and_eq_true] at hc;let#[#[#[ht,hh],he],hf]:=hc;cases el<;>first|(cases he;done)|skip
   cases fi<;>first|(cases hf;done)|skip
   cases hs<;>first|(cases hh;done)|skip
   let#[fA,hf,BY]:=C.ji ht
   ·let#[mb,h1,h2]:=ag.mp h2;let#[ms,h3,rfl]:=aa.mp h2;refine bH5 hP (C.sgn hw) (λpi D=>uR S (C.pS hw fA hf pi D _ (λZ hl _=>#[by rw[yt,hl],λi v z=>?_]) λ_=>rfl) rfl h1) (UG C BY h3);rw[dD] at z;split at z<;>cases z
  ·cases h2
 |Pass p=>cases h;exact(Tn (X:=X)).imp (by rintro N cq H ⟨Z,g,ρ,s,R,h⟩;exact h ρ H cq (.refl _ _) R s)
 |_=>cases h
end
def aT1(h:(comp (n+1)).e c e=some m)(hn:F6 e=false):∃elt gens sc p,e=.ListComp elt gens sc p/\tB (comp n) c elt gens sc=some m:=by
 cases e<;>first|(cases hn;done)|(cases h;done)|exact#[_,_,_,_,rfl,h]
def snd:∀n,(∀k,k<=n->rg P (comp k)):=by
 intro n
 induction n with
 |zero =>
  intro k hk;obtain rfl:=Nat.le_zero.mp hk;exact#[λ_ _ _ _ _ _ h=>(by cases h),λ_ _ _ _ _ _ h=>(by cases h),λ_ _ _ _ _ _ _ h=>(by cases h)]
 |succ n ih =>
  intro k hk;rcases iy k (n+1) with dO|Ie
  ·grind
  obtain rfl:k=n+1:=by omega
  have I:=ih n (av n);refine#[λX c Ξ C e m h=>Qq I C e m h,λX c Ξ C e m h=>Qo I C e m h,λX c Ξ C hw st m h=>?_];rcases orElse_some h with h|h
  rotate_left
  ·cases h;exact λpi s Z H D I q=>by let#[_,_,_,_,_,z]:=q;exact(show False from z).elim
  refine Qp I C hw (λe m he hn=>?_) (λa b k p m he=>?_) st m h
  ·cases n with
   |zero=>cases he
   |succ n =>
    let#[elt,gens,sc,p,rfl,hx]:=aT1 he hn;exact#[_,_,_,_,rfl,comp n,ih n (),hx]
  ·cases n with
   |zero=>cases he
   |succ n =>
    let#[ms,hm,rfl]:=aa.mp (show(O8 (comp n) c [a,b]).map (ME.prim .tup)=some m from he);exact#[comp n,ms,ih n (),hm,rfl]
structure pY where
 nm:Str
 qn:Str
 N:List Str
 ps:List Str
 st:Stmt
abbrev j4.at(c:j4)(d:pY):j4:={ c with N:=d.N,nm:=(t8 d.st).names,mr:=true,jF:=true,ji:=true,wr:=true }
structure jz(K:PySem.W.Frag)(c:j4)(d:pY)(m:aR)(f:Addr)(fd:FuncData):Prop where
 fn:rh K d.nm d.qn d.st f fd
 bi:Binds K fd d.ps []
 sc:iO d.N d.ps (t8 d.st)
 co:A2 (comp 60) (c.at d) (u4 d.st)=some m.body
 ar:m.ar=d.ps.length
 nn:m.n=d.N.length
structure nE(w:World)(K:PySem.W.Frag)(mg:Str->Option Value)(c:j4)(T:Nat->Option aR):Prop where
 fns:∀x i,c.fns.lookup x=some i->∃d m f fd,T i=some m/\jz K c d m f fd/\mg x=some (.ref f)
 cls:∀x i,c.cls.lookup x=some i->∃C d m f fd,T i=some m/\jz K c d m f fd/\mg x=some (.ref C)/\v5 K x C/\je K C/\Mk K C f
 nN:∀x y i C,(x,y,i)∈c.nN->v5 K y C->∃d m f fd,T i=some m/\jz K c d m f fd/\Meth K C x f
 oi:∀f y C,(f,y)∈c.oi->v5 K y C->D9 K C f
 con:∀x d,c.con.lookup x=some d->∃v u,mg x=some u/\RelV v u/\∀ρ H,f7 K ρ H d v
 blt:∀x,c.blt.contains x=true->mg x=none
 DB:∀x,c.exc.contains x=true->∃C,mg x=some (.ref C)/\v5 K x C/\∀base:Heap,K.In base->base.Ns mainGlobals mg->∃B newId gG bm,OwnCls x C bm newId mg base/\ExcBaseFacts B newId gG bm
 Dz:∀x y C C',c.exc.contains x=true->c.exc.contains y=true->v5 K x C->v5 K y C'->PySem.W.exmOne K (.ref C) (.ref C')=some (decide (x=y\/y="MintError"))
 sE:∀x kvs,c.gd.lookup x=some kvs->∃A vs,mg x=some (.ref A)/\Ab K w.params A vs/\qL K kvs vs
section
variable{Pg:Program}{w:World}{K:PySem.W.Frag}{mg:Str->Option Value}{base:Heap}{T:Nat->Option aR}
def YX{q}(h:PySem.W.codeIn K cd q=true):PySem.W.kdsCode K cd=true:=by
 unfold PySem.W.codeIn at h;unfold PySem.W.kdsCode;split at h
 ·dsimp only;split at h
  ·rename_i e;rw[e]
  ·cases h
 ·cases h
def bA6:Passes (gY Pg w) (pM (gY Pg w) Pg w K mg base N qual scope f cd A outer s H E) E:=λpi Z H1 s1 e s' I h=>by
 let#[C,H',J,fl,hE]:=I.flew h;exact aO0 J fl (λb o q=>I.base.there b o q (by intro z;cases z)) rfl rfl rfl hE
def VM:zr (pM (gY Pg w) Pg w K mg base N qual scope f cd A outer s H E) E:=λpi Z H1 s1 h' ea C vs I hm hE =>
 a28 I hm rfl rfl rfl hE
def bD5:xr (pM (gY Pg w) Pg w K mg base N qual scope f cd A outer s H E) E:=λpi Z H1 H2 s1 s2 B ea C a0 I l hh hE =>
 leave_held I l hh rfl rfl rfl hE
def Gf{k}{m}(hT:T i=some m){ds}{g}{Q}{E}(h:b7 T k i ds g Q E):ds.length=m.ar:=by
 cases k with
 |zero=>exact h.elim
 |succ k =>
  let#[m',e,h,_]:=h
  simp_all
def Yz(mP:K.In base)(wL:base.Ns mainGlobals mg)(A:nE w K mg c T):∀(k i:Nat) d m f fd,T i=some m->jz K c d m f fd->gH Pg w K mg base (gY Pg w) (2*k) f fd d.ps (qk c.exc K d.ps.length (b7 T k i)):=by
 intro k
 induction k with
 |zero =>
  intro i d m f fd hm O;refine#[λvs H Q E h=>h.1,λA outer s H args us vs Q E _ _ _ _ h=>?_];let#[_,_,_,_,_,_,q]:=h;exact q.elim
 |succ k ih =>
  intro i d m f fd hm O;let#[oc,od,kV,doc,pm,an,fN,ct,mh,rfl,lk,lP]:=O.fn.ex;refine b12 (k:=2*k+1) lk lP O.sc (λvs H Q E h=>h.1) (λA0 outer s H vs Q E hr h=>?_);let#[hl,xs,g,ρ,rs,R,q]:=h;have C:gZ (pM (gY Pg w) Pg w K mg base d.N d.qn (t8 d.st) f fN A0 outer s H E) (c.at d) (b7 T k) (c.exc,E):=by
   refine#[rfl,O.sc.nd,λx h=>h,λx h=>h,λx h=>.inr h,λx h=>h,λx h=>?_,λ_ _=>rfl,rfl,?_,(λ_=>PassesOwn.leaving),a8 T k,A.con,A.blt,λx j hj=>?_,λx j hj=>?_,λx y j C' hj hC=>?_,A.oi,rfl,bA6,λ_=>VM,λ_=>#[rfl,rfl,bD5],λx hx=>?_,A.Dz,A.sE,λ_=>YX lP,λ_=>rfl]
   ·rcases h with h|h
    ·exact Ej h
    ·exact absurd rfl (O.sc.mH _ (aO h))
   ·have:=hr.un;show(A0.deeper _).units+100<cLine;omega
   ·let#[d',m',f',qH,hT,O',hmg]:=A.fns x j hj;exact#[2*k,f',qH,d'.ps,#[ih j d' m' f' qH hT O',O'.bi,λIV g' Q' E' h'=>(Gf hT h').trans O'.ar],hr.mono (),hmg,O'.fn.kp]
   ·let#[C',d',m',f',qH,hT,O',hmg,hC,jq,M]:=A.cls x j hj;exact#[2*k,C',f',qH,d'.ps,#[ih j d' m' f' qH hT O',O'.bi,λIV g' Q' E' h'=>(Gf hT h').trans O'.ar],hr,hmg,hC,jq,M]
   ·let#[d',m',f',qH,hT,O',M]:=A.nN x y j C' hj hC;exact#[2*k,f',qH,d'.ps,M,#[ih j d' m' f' qH hT O',O'.bi,λIV g' Q' E' h'=>(Gf hT h').trans O'.ar],hr.mono ()]
   ·let#[C,h1,h2,h3]:=A.DB x hx;exact#[C,h1,h2,h3 base mP wL]
  refine#[_,uR (snd (P:=b7 T k) 60 60 (av _)) C rfl O.co,?_];let#[m',e,q1,q]:=q;rw[hm] at e;cases e;refine#[b9 m xs,g,ρ,?_,R,wpS_mono (a8 T k) m.body #[λ_ g'=>LQ K ρ H Q .br g',LQ K ρ H Q,λ_ _=>False,λ_ _=>False] _ _ _ _ _ #[λZ g' h bT H' cQ e R' s'=>h bT H' _ e R' .br,λd g' h=>h,λ_ _ h=>h.elim,λ_ _ h=>h.elim] (λ_ _ z=>z) q];have:=u1.start (n:=d.N.length) rs;unfold b9 L2.start;rw[O.nn];exact this
def Zb{L k0:Nat}{a}{ns:List Int}(hO:Aw H)(hS:fq K H a (ns.map V.int))(h:b7 T k0 L [.ref 0] [.pH (ns.map .int)] (λd _=>d=.bl true) jt) :
  qk exc K 1 (b7 T k0 L) [.ref a] H (λv _=>v=.bl true) λ_ _ _=>False:=by
 refine#[rfl,[.ref 0],[.pH (ns.map .int)],[a],.cons (.ref rfl) .nil,#[rfl,λi o b h1 h2=>?_,λi j l m b h1 h2 m1=>?_],a8 T k0 _ _ _ _ _ _ _ (λd g' e bT H' v _ _ r=>?_) (λ_ _ z=>z.elim) h]
 ·cases i with
  |zero =>
   cases h1;cases h2;refine#[_,?_,c8.ofInts ns];rcases hS with(z|⟨o,z⟩)|z
   ·rcases hO a with q|⟨o,xs,q⟩
    ·simp_all
    simp_all
   ·exact .inl #[o,z]
   ·exact .inr z
  |succ i=>simp at h1
 ·cases i with
  |zero=>cases h1;cases m1
  |succ i=>simp at h1
 ·subst e;cases r
  rfl
end
end M
namespace M
open PySem L2
variable{P:fb}{g:G}{Q:KD}{E:KX}{N:Ends}{a i n:Nat}{b:Bool}{c f:Str}{o cond elt:ME}{x y d v:D}{cs:List Str}{j:Int}{l:List D}{A B:Prop}{kvs:List (Key×D)}{kg:G->Prop}{ns:List Int}{d6:List Nat}{R:IK->G->Prop}
section
variable{Z:S}{a b c:ME}{x y:MS}{p:Pr}
def uJ(h:N.nx Z g):wpS P .pass N Z g E:=h
def JO(h:wpS P x #[λiN g1=>wpS P y N iN g1 E,N.rt,N.bk,N.ct] Z g E):wpS P (.seq x y) N Z g E:=h
def FV(h:wpS P x N Z g E):wpS P (.seq x .pass) N Z g E:=h
def bF7(h:aW P a Z g (λ_ g1=>N.nx Z g1) E):wpS P (.expr a) N Z g E:=h
def JP(h:aW P a Z g (λx g1=>N.nx (Z.set i (some x)) g1) E):wpS P (.set i a) N Z g E:=h
def Yy{t}(h:aW P a Z g (λx g1=>jT t x Z λiN=>N.nx iN g1) E):wpS P (.nL t a) N Z g E:=h
def M'{i}(h:aW P a Z g (λx g1=>aW P o Z g1 (λy g2=>aW P i Z g2 (λz g3=>oB y z x g3 λg4=>N.nx Z g4) E) E) E):wpS P (.cS o i a) N Z g E:=h
def bF3(h:aW P a Z g (λx g1=>aW P o Z g1 (λy g2=>xn f cs y x g2 λg3=>N.nx Z g3) E) E):wpS P (.gi f cs o a) N Z g E:=h
def OO(h:aW P o Z g (λy g1=>∃a' c fs x,y=.ref a'/\g1[a']?=some (.ins c fs)/\c∈cs/\fs.lookup f=some x/\aW P a Z g1 (λz g3=>cL .iadd [x,z] g3 λw g4=>∃ja,g4[a']?=some (.ins c ja)/\ja.length<100/\N.nx Z (g4.set a' (.ins c (m7 f w ja)))) E) E):wpS P (.kj f cs o a) N Z g E:=h
def JN(h:dP P c Z g (λt g1=>if t=true then wpS P x N Z g1 E else wpS P y N Z g1 E) E):wpS P (.ifs c x y) N Z g E:=h
def Yv(h:aW P a Z g N.rt E):wpS P (.ret a) N Z g E:=h
def Up{x}(h:fJ P a Z g (λvs g1=>vs.length<=1000/\E #[x] g1) E):wpS P (.raise x a) N Z g E:=h
def Yx{hs}(h:wpS P x N Z g (nK P N (Z.map λ_=>none) E hs)):wpS P (.pS x hs) N Z g E:=h
def b09{x}{e}{r}(h:aW P e Z g N.rt jt):nK P N Z E (("MintError",e)::r) x g:=by unfold nK;rw[aH (.inr rfl)];exact h
def w_var(e:Z[i]?=some (some d))(h:Q d g):aW P (.var i) Z g Q E:=by exact#[d,e,h]
def w_lit(h:Q d g):aW P (.lit d) Z g Q E:=h
def bF4(h:fJ P a Z g (λxs g1=>cL p xs g1 Q) E):aW P (.prim p a) Z g Q E:=h
def b39(h:cL p [] g Q):aW P (.prim p .nil) Z g Q E:=by exact h
def zZ(h:aW P a Z g (λx g1=>cL p [x] g1 Q) E):aW P (.prim p (.cons a .nil)) Z g Q E:=by exact h
def pU(h:aW P a Z g (λx g1=>aW P b Z g1 (λy g2=>cL p [x,y] g2 Q) E) E):aW P (.prim p (.cons a (.cons b .nil))) Z g Q E:=by exact h
def Um{o1 o2}(h:aW P a Z g (λx g1=>aW P b Z g1 (λy g2=>cL (.cmp o1) [x,y] g2 λz g3=>∃t,z=.bl t/\if t=true then aW P c Z g3 (λw g4=>cL (.cmp o2) [y,w] g4 Q) E else Q (.bl false) g3) E) E):aW P (.chain o1 o2 a b c) Z g Q E:=h
def w_and(h:aW P a Z g (λx g1=>∃t,x=.bl t/\if t=true then aW P b Z g1 Q E else Q (.bl false) g1) E):aW P (.dS a b) Z g Q E:=h
def w_not(h:aW P a Z g (λx g1=>∃t,x=.bl t/\Q (.bl (!t)) g1) E):aW P (.de a) Z g Q E:=h
def w_ite(h:dP P c Z g (λt g1=>if t=true then aW P a Z g1 Q E else aW P b Z g1 Q E) E):aW P (.ite c a b) Z g Q E:=h
def FU{f}(h:fJ P a Z g (λxs g1=>P f xs g1 Q E) E):aW P (.call f a) Z g Q E:=h
def bF6{f}{c}(h:fJ P a Z g (λxs g1=>P f (.ref g1.length::xs) (g1++[.ins c []]) (λd g2=>d=.br/\Q (.ref g1.length) g2) E) E):aW P (.make c f a) Z g Q E:=h
def Uo{m}{cs}(h:aW P o Z g (λx g1=>∃a' c fs f,x=.ref a'/\g1[a']?=some (.ins c fs)/\fs.lookup m=none/\cs.lookup c=some f/\fJ P a Z g1 (λxs g2=>P f (x::xs) g2 Q E) E) E):aW P (.bK m cs o a) Z g Q E:=h
def bF5(h:aW P o Z g (λx g1=>mJ p x g1/\fJ P a Z g1 (λxs g2=>cL p (x::xs) g2 Q) E) E):aW P (.fu p o a) Z g Q E:=h
def Yu(h:fJ P a Z (g++[.cg []]) (λxs g1=>∃kvs,uP xs []=some kvs/\xs.length<=30/\g1[g.length]?=some (.cg [])/\Q (.ref g.length) (g1.set g.length (.cg kvs))) E):aW P (.oo a) Z g Q E:=h
def Fu{Q}(h:Q [] g):fJ P .nil Z g Q E:=h
def uI{Q}(h:aW P a Z g (λx g1=>fJ P b Z g1 (λxs g2=>Q (x::xs) g2) E) E):fJ P (.cons a b) Z g Q E:=h
def bF2{Q}(h:dP P a Z g (λt g1=>if t=true then dP P b Z g1 Q E else Q false g1) E):dP P (.dS a b) Z g Q E:=h
def Yw{Q}(h:dP P a Z g (λt g1=>if t=true then Q true g1 else dP P b Z g1 Q E) E):dP P (.gF a b) Z g Q E:=h
def bF1{Q}(h:dP P a Z g (λt g1=>Q (!t) g1) E):dP P (.de a) Z g Q E:=h
def M3{Q}(h:Q true g):dP P .no Z g Q E:=h
def JQ{Q}(h:aW P a Z g (λx g1=>pR g1 x λb=>Q b g1) E):dP P (.eB a) Z g Q E:=h
end
section
variable{i:Int}{kb:Bool->Prop}{t s:Bool}{m:List D}
def b36(h:Q (.int (i+j)) g):cL (.bin .Add) [.int i,.int j] g Q:=#[_,_,.inl #[i,j,_,rfl,rfl,rfl,rfl],h]
def b35(h:Q (.int (i-j)) g):cL (.bin .Sub) [.int i,.int j] g Q:=#[_,_,.inl #[i,j,_,rfl,rfl,rfl,rfl],h]
def uu(c:sN i j)(h:Q (.int (i*j)) g):cL (.bin .Mult) [.int i,.int j] g Q:=#[_,_,.inl #[i,j,_,rfl,#[c,rfl],rfl,rfl],h]
def Z8(c:0<j)(h:Q (.int (i % j)) g):cL (.bin .Mod) [.int i,.int j] g Q:=#[_,_,.inl #[i,j,_,rfl,#[c,rfl],rfl,rfl],h]
def Jd(c:DN i j)(h:Q (.int (i / j)) g):cL (.bin .FloorDiv) [.int i,.int j] g Q:=#[_,_,.inl #[i,j,_,rfl,#[c,rfl],rfl,rfl],h]
def Ac(c:oq i j)(h:Q (.int (i ^ j.toNat)) g):cL (.bin .Pow) [.int i,.int j] g Q:=#[_,_,.inl #[i,j,_,rfl,#[c,rfl],rfl,rfl],h]
def xg(hl:l.length+m.length<=100000)(h:Q (.tup (l++m)) g):cL (.bin .Add) [.tup l,.tup m] g Q:=#[_,_,.inr (.inl #[rfl,.inl #[l,m,rfl,hl,rfl,rfl]]),h]
def b32{i j}(hi:g[i]?=some (.lst l))(hj:g[j]?=some (.lst m))(hl:l.length+m.length<=100000)(h:Q (.ref g.length) (g++[.lst (l++m)])):cL (.bin .Add) [.ref i,.ref j] g Q:=#[_,_,.inr (.inl #[rfl,.inr (.inl #[i,j,l,m,rfl,hi,hj,hl,rfl,rfl])]),h]
def Jk{i}{n}(hi:g[i]?=some (.lst l))(h1:-(2 ^ 62)<=n)(h2:n<2 ^ 62)(hl:l.length*n.toNat<=100000)(h:Q (.ref g.length) (g++[.lst (List.replicate n.toNat l).flatten])):cL (.bin .Mult) [.ref i,.int n] g Q:=#[_,_,.inr (.inr #[rfl,.inl #[i,l,n,rfl,hi,h1,h2,hl,rfl,rfl]]),h]
def Yt(h:Q (.int (-i)) g):cL (.un .USub) [.int i] g Q:=#[_,_,#[rfl,i,rfl,rfl,rfl],h]
def ox{op}(hb:Ki g x y b op)(h:Q (.bl b) g):cL (.cmp op) [x,y] g Q:=#[_,_,#[x,y,b,rfl,hb,rfl,rfl],h]
def Ta(h:Q (.bl (decide (i<j))) g):cL (.cmp .Lt) [.int i,.int j] g Q:=ox #[i,j,rfl,rfl,rfl] h
def SY(h:Q (.bl (decide (i<=j))) g):cL (.cmp .LtE) [.int i,.int j] g Q:=ox #[i,j,rfl,rfl,rfl] h
def SX(h:Q (.bl (decide (j<i))) g):cL (.cmp .Gt) [.int i,.int j] g Q:=ox #[i,j,rfl,rfl,rfl] h
def SW(h:Q (.bl (decide (j<=i))) g):cL (.cmp .GtE) [.int i,.int j] g Q:=ox #[i,j,rfl,rfl,rfl] h
def Ax(h:uo g x y λb=>Q (.bl b) g):cL (.cmp .Eq) [x,y] g Q:=let ⟨_,hb,h⟩:=h;ox hb h
def DW(h:uo g x y λb=>Q (.bl (!b)) g):cL (.cmp .NotEq) [x,y] g Q:=let ⟨b,hb,h⟩:=h;ox (b:=!b) (show wR g x y (!(!b)) from by simp_all) h
def qN(h:nQ g x y λb=>Q (.bl b) g):cL (.cmp .In) [x,y] g Q:=let ⟨_,hb,h⟩:=h;ox (.inl hb) h
def b28{S}(hg:g[a]?=some (.set S n))(h:Q (.bl (S i)) g):cL (.cmp .In) [.int i,.ref a] g Q:=ox (.inr #[a,S,n,i,rfl,hg,rfl,rfl]) h
def J6(h:nQ g x y λb=>Q (.bl (!b)) g):cL (.cmp .NotIn) [x,y] g Q:=let ⟨b,hb,h⟩:=h;ox (b:=!b) (.inl (show inR g x y (!(!b)) from by simp_all)) h
def JB(h:kb (decide (i=j))):uo g (.int i) (.int j) kb:=#[_,.inl #[i,j,rfl,rfl,rfl],h]
def Kw(h:kb (t==s)):uo g (.bl t) (.bl s) kb:=#[_,.inr (.inl #[t,s,rfl,rfl,rfl]),h]
def XR{x y}(h:kb (decide (x=y))):uo g (.str x) (.str y) kb:=#[_,.inr (.inr (.inl #[x,y,rfl,rfl,rfl])),h]
def b30(h:Q (.bl (decide (i=j))) g):cL (.cmp .Eq) [.int i,.int j] g Q:=Ax (JB h)
def Jl(h:Q (.bl (!decide (i=j))) g):cL (.cmp .NotEq) [.int i,.int j] g Q:=DW (JB h)
def b31(h:Q (.bl (t==s)) g):cL (.cmp .Eq) [.bl t,.bl s] g Q:=Ax (Kw h)
def b21(h:Q (.bl (!(t==s))) g):cL (.cmp .NotEq) [.bl t,.bl s] g Q:=DW (Kw h)
def b29{p q}(h:Q (.bl (decide (p=q))) g):cL (.cmp .Eq) [.str p,.str q] g Q:=Ax (XR h)
def sQ(h:Q (.bl (Z5 d)) g):cL (.cmp .Is) [d,.br] g Q:=ox #[rfl,rfl] h
def b27(h:Q (.bl true) g):cL (.cmp .Is) [.br,.br] g Q:=sQ h
def b25(h:Q (.bl false) g):cL (.cmp .Is) [.int i,.br] g Q:=sQ h
def b26(h:Q (.bl false) g):cL (.cmp .Is) [.bl t,.br] g Q:=sQ h
def b23{x}(h:Q (.bl false) g):cL (.cmp .Is) [.str x,.br] g Q:=sQ h
def b22(h:Q (.bl false) g):cL (.cmp .Is) [.tup l,.br] g Q:=sQ h
def b24(h:Q (.bl false) g):cL (.cmp .Is) [.ref n,.br] g Q:=sQ h
def b42(h:kb t):pR g (.bl t) kb:=#[t,.inr (.inl rfl),h]
def Yl(h:kb (i != 0)):pR g (.int i) kb:=#[_,.inr (.inr (.inl #[i,rfl,rfl])),h]
def Ym{i}(hl:d7 g i=some l)(h:kb (!l.isEmpty)):pR g (.ref i) kb:=#[_,.inr (.inr (.inr (.inr #[i,l,rfl,hl,rfl]))),h]
def zu{p:Bool->Prop}(h:p t):∃s,D.bl t=D.bl s/\p s:=#[t,rfl,h]
def YT{p:Int->Prop}(h:p i):∃s,D.int i=D.int s/\p s:=#[i,rfl,h]
def if2{c}[Decidable c](h1:c->A)(h2:¬c->B):if decide c=true then A else B:=by
 simp_all
def iV(h:A):if true=true then A else B:=by rw[aH rfl];exact h
def pP(h:B):if false=true then A else B:=by rw[az ∅];exact h
def Kn(h:A):if(!false)=true then A else B:=by exact h
def b91(h:B):if(!true)=true then A else B:=by rw[az ∅];exact h
def ei(hb:b=false)(h:B):if b=true then A else B:=by rw[hb];exact pP h
def eM(hb:b=true)(h:A):if b=true then A else B:=by rw[hb];exact iV h
def E5(hl:d7 g a=some l)(h2:jc l i=some d)(h:Q d g):cL .ix [.ref a,.int i] g Q:=#[_,_,#[rfl,.inl #[_,l,i,rfl,hl,h2]],h]
def A9(h2:jc l i=some d)(h:Q d g):cL .ix [.tup l,.int i] g Q:=#[_,_,#[rfl,.inl #[_,l,i,rfl,rfl,h2]],h]
def m8{i}{k}(hg:g[i]?=some (.cg kvs))(hk:nA y=some k)(hv:v8 kvs k=some v)(h:Q v g):cL .ix [.ref i,y] g Q:=#[_,_,#[rfl,.inr (.inl #[i,kvs,y,k,rfl,hg,hk,hv])],h]
def qW(hl:g[a]?=some (.lst l))(hn:nO l.length i=some n)(h:kg (g.set a (.lst (l.set n v)))):oB (.ref a) (.int i) v g kg:=#[_,.inl #[a,i,l,n,rfl,rfl,hl,hn,rfl],h]
def S1{i}{k}(hg:g[i]?=some (.cg kvs))(hk:nA y=some k)(hl:kvs.length<100000)(h:kg (g.set i (.cg (putD kvs k v)))):oB (.ref i) y v g kg:=#[_,.inr #[i,kvs,k,rfl,hg,hk,hl,rfl],h]
def P8{fs}(hg:g[a]?=some (.ins c fs))(hc:c∈cs)(hl:fs.length<100)(h:kg (g.set a (.ins c (m7 f v fs)))):xn f cs (.ref a) v g kg:=#[_,#[a,c,fs,rfl,hg,hc,hl,rfl],h]
def u3{fs}(hg:g[a]?=some (.ins c fs))(hf:fs.lookup f=some d)(h:Q d g):cL (.fld f) [.ref a] g Q:=#[_,_,#[a,c,fs,rfl,hg,hf,rfl],h]
def a7(h:g[a]?=some (.lst l)):d7 g a=some l:=by simp only[d7,h,FD]
def WU(h:g[a]?=some (.pH l)):d7 g a=some l:=by simp only[d7,h,FD]
def xi(hl:d7 g a=some l)(h:Q (.int l.length) g):cL .len [.ref a] g Q:=#[_,_,#[rfl,.inl #[_,l,rfl,hl,rfl]],h]
def GB(hl:g[a]?=some (.cg kvs))(h:Q (.int kvs.length) g):cL .len [.ref a] g Q:=#[_,_,#[rfl,.inr (.inl #[a,kvs,rfl,hl,rfl])],h]
def bI5(h:Q (.tup (cut l (some i) none)) g):cL (.lY true false) [.tup l,.int i] g Q:=#[_,_,#[_,i,rfl,.inl #[l,rfl,rfl,rfl]],h]
def bI6(h:Q (.tup (cut l none (some i))) g):cL (.lY false true) [.tup l,.int i] g Q:=#[_,_,#[_,i,rfl,.inl #[l,rfl,rfl,rfl]],h]
def OC(hl:d7 g a=some l)(h:Q (.ref g.length) (g++[.lst (cut l none (some i))])):cL (.lY false true) [.ref a,.int i] g Q:=#[_,_,#[_,i,rfl,.inr #[a,l,rfl,hl,rfl,rfl]],h]
def GK(hl:l.length<=1000)(h:Q (.tup l) g):cL .tup l g Q:=#[_,_,#[hl,rfl,rfl],h]
def As(hl:l.length<=1000)(h:Q (.ref g.length) (g++[.lst l])):cL .lst l g Q:=#[_,_,#[hl,rfl,rfl],h]
def GD(hl:d7 g a=some l)(h:Q (.ref g.length) (g++[.lst l])):cL .list [.ref a] g Q:=#[_,_,.inl #[_,l,rfl,hl,rfl,rfl],h]
def tm(hg:g[a]?=some (.cg kvs))(hz:kvs.length<=10000)(h:Q (.ref g.length) (g++[.lst ((kvs.map (·.1)).map kD)])):cL .list [.ref a] g Q:=#[_,_,.inr #[a,kvs,rfl,hg,hz,rfl,rfl],h]
def Xu(h:Q (.ref g.length) (g++[.lst l])):cL .list [.tup l] g Q:=#[_,_,.inl #[_,l,rfl,rfl,rfl,rfl],h]
def Yr(hl:d7 g a=some l)(h:Q (.tup l) g):cL .tuple [.ref a] g Q:=#[_,_,#[_,l,rfl,hl,rfl,rfl],h]
def gB{c}(hc:c∈["int","bool","str","tuple","list"])(hb:sR g d c=some b)(h:Q (.bl b) g):cL .isin [d,.ty c] g Q:=#[_,_,#[d,c,b,rfl,hc,hb,rfl,rfl],h]
def Jw{i}(hg:g[i]?=some (.lst l))(hl:l.length<100000)(h:Q .br (g.set i (.lst (l++[y])))):cL .append [.ref i,y] g Q:=#[_,_,#[i,y,l,rfl,hg,hl,rfl,rfl],h]
def FC(h:Q (.int (i+j)) g):cL .iadd [.int i,.int j] g Q:=#[_,_,.inl #[i,j,rfl,rfl,rfl],h]
def MA{i}(hg:g[i]?=some (.cg kvs))(hk:kvs.map (·.1)=ns.map Sum.inl)(hz:ns.length<60)(h:Q (.ref g.length) (g++[.lst ((m5 ns).map .int)])):cL .eW [.ref i] g Q:=#[_,_,.inl #[i,kvs,ns,rfl,hg,hk,hz,rfl,rfl],h]
def bA7{i}(hl:d7 g i=some (ns.map .int))(hz:ns.length<60)(h:Q (.ref g.length) (g++[.lst ((S0 ns).map .int)])):cL .eW [.ref i] g Q:=#[_,_,.inr #[_,ns,rfl,hl,hz,rfl,rfl],h]
def Zh{i}(hg:g[i]?=some (.lst l)):mJ .append (.ref i) g:=#[i,l,rfl,a7 hg]
def Ox(hl:d7 g a=some (ns.map .int))(hz:ns.length<60)(h:Q (.ref g.length) (g++[.lst ((m5 ns).map .int)])):cL .sset [.ref a] g Q:=#[_,_,#[a,ns,rfl,hl,hz,rfl,rfl],h]
def Y5(h:Q (.ref g.length) (g++[.cg []])):cL .Y5 [] g Q:=#[_,_,#[rfl,rfl,rfl],h]
def Zg{S}(hg:g[a]?=some (.set S n))(hn:n+1<4096)(h:Q .br (g.set a (.set (λk=>S k||decide (k=i)) (if S i then n else n+1)))):cL .ka [.ref a,.int i] g Q:=#[_,_,#[a,i,S,n,rfl,hg,hn,rfl,rfl],h]
def bC0{S}(hg:g[a]?=some (.set S n)):mJ .ka (.ref a) g:=#[a,S,n,rfl,hg]
def Zx(hg:g[a]?=some (.lst (ns.map .int)))(hl:ns.length<1000)(nd:ns.Nodup)(h:Q (.ref g.length) (g++[.cg (qO ns)])):cL .lT [.ref a] g Q:=#[_,_,#[a,ns,rfl,hg,hl,nd,rfl,rfl],h]
def Zy{n:Int}{fs:List (Key×Int×Int)}(hg:g[a]?=some (.cg (fs.map lR)))(hl:fs.length<1000)(nd:(fs.map (·.1)).Nodup)(h:Q (.ref g.length) (g++[.cg ((fs.filter (qT n)).map lR)])):cL .nr [.ref a,.int n] g Q:=#[_,_,#[a,n,fs,rfl,hg,hl,nd,rfl,rfl],h]
def xC{c}(hg:g[a]?=some (.cg kvs))(hk:nA y=some c)(hv:v8 kvs c=some d)(h:Q d (g.set a (.cg (delD kvs c)))):cL .iW [.ref a,y] g Q:=#[_,_,#[a,y,kvs,c,rfl,hg,hk,hv,rfl],h]
def xj(hg:g[a]?=some (.cg kvs)):mJ .iW (.ref a) g:=#[a,kvs,rfl,hg]
def bA8(h:Q (.ref g.length) (g++[.set (λk=>decide (k=i)) 1])):cL (.jZ i) [] g Q:=#[_,_,#[rfl,rfl,rfl],h]
def JH(hl:d7 g a=some (ns.map .int))(h:Q (.int ns.sum) g):cL .sum [.ref a] g Q:=#[_,_,#[a,ns,rfl,hl,rfl,rfl],h]
def Kc(hl:d7 g a=some (ns.map .int))(hz:ns.length<60)(h:Q (.int (ST.f9 [] ns).length) g):cL .nB [.ref a] g Q:=#[_,_,#[a,ns,rfl,hl,hz,rfl,rfl],h]
def b34(hl:d7 g a=some (ns.map .int))(h:Q (.bl (ns.all λn=>n != 0)) g):cL .all [.ref a] g Q:=#[_,_,#[a,_,_,rfl,hl,.inr #[ns,rfl,rfl],rfl,rfl],h]
def Gv(c:oq i j)(h:Q (.int (i*2 ^ j.toNat)) g):cL (.bin .LShift) [.int i,.int j] g Q:=#[_,_,.inl #[i,j,_,rfl,#[c,rfl],rfl,rfl],h]
def xf(h:Q (.int (Builtin.bitAnd i j)) g):cL (.bin .BitAnd) [.int i,.int j] g Q:=#[_,_,.inl #[i,j,_,rfl,rfl,rfl,rfl],h]
def SN(h:Q (.int (Builtin.bitOr i j)) g):cL (.bin .BitOr) [.int i,.int j] g Q:=#[_,_,.inl #[i,j,_,rfl,rfl,rfl,rfl],h]
def bF8{Z}{i}{p}{v}(e:Z[i]?=some (some x))(h:aW P v Z g (λz g1=>cL p [x,z] g1 λw g2=>N.nx (Z.set i (some w)) g2) E):wpS P (.kW i p v) N Z g E:=#[x,e,h]
def b05{v:Bool}(h:Q (.int (if v then 1 else 0)) g):cL .int [.bl v] g Q:=#[_,_,#[rfl,.inr #[v,rfl,rfl]],h]
def Js{kvs}{x}(hv:V9 kvs x=some v)(h:Q v g):cL .nk [.tup kvs,.str x] g Q:=#[_,_,#[kvs,x,rfl,hv,rfl],h]
def Ae{i}{v}(hl:d7 g i=some l)(hv:qQ l=some v)(h:Q (.bl v) g):cL .all [.ref i] g Q:=#[_,_,#[i,l,v,rfl,hl,.inl hv,rfl,rfl],h]
def j9{i}{Z}{k}(h:k (Z.set i (some x))):jT (.one i) x Z k:=h
def O0{is}{Z bV}{k}(e:X4 is l Z=some bV)(h:k bV):jT (.many is) (.tup l) Z k:=#[l,bV,rfl,e,h]
end
def zQ:∀(bs:List Bool),qQ (bs.map D.bl)=some (bs.all id):=by
 intro bs
 induction bs with
 |nil=>rfl
 |cons b r ih=>simp[qQ,ih]
def call_of{T}{k f}{m}{ds}(hT:T f=some m)(hl:ds.length=m.ar)(h:wpS (b7 T k) m.body #[λ_ g'=>Q .br g',Q,λ_ _=>False,λ_ _=>False] (b9 m ds) g E):b7 T (k+1) f ds g Q E:=#[m,hT,hl,h]
def i0{Z}{a}{f:Nat}{m}{fs}{cs:List (Str×Nat)}(hg:g[i]?=some (.ins c fs))(hf:fs.lookup m=none)(hc:cs.lookup c=some f)(h:fJ P a Z g (λxs g2=>P f (.ref i::xs) g2 Q E) E) :
  ∃a' c fs f,D.ref i=.ref a'/\g[a']?=some (.ins c fs)/\fs.lookup m=none/\cs.lookup c=some f/\fJ P a Z g (λxs g2=>P f (.ref i::xs) g2 Q E) E:=#[i,c,fs,f,rfl,hg,hf,hc,h]
abbrev IK.Is(k:IK)(l:List D)(g:G):Prop:=∀i,k.at i g=some l[i]?
def L3:(IK.fix l).Is l g:=λ_=>rfl
def n9(h:d7 g a=some l):(IK.lst a).Is l g:=λi=>by simp only[IK.at,h]
abbrev my(l:List D):List D:=l.mapIdx λi d=>.tup [.int i,d]
def zj(h:d7 g a=some l):(IK.pI a).Is (my l) g:=λi=>by
 simp only[IK.at,h,my,List.getElem?_mapIdx]
def YV(h:d7 g a=some l):(IK.tS a l.length).Is l.reverse g:=λi=>by
 simp only[IK.at,h,if_true];by_cases hi:i<l.length
 ·rw[aH hi,List.getElem?_reverse hi]
 ·rw[az hi,bq (by simpa using hi)]
def V2(l:List D):(my l).length=l.length:=by simp[my]
def zw(h:(my l)[i]?=some x):∃d,l[i]?=some d/\x=.tup [.int i,d]:=by
 rw[my,List.getElem?_mapIdx,aa] at h;let#[d,h1,h2]:=h;exact#[d,h1,h2.symm]
def U1{lo}(h:(E0 lo n)[i]?=some x):i<n/\x=.int (lo+i):=by
 unfold E0 at h;have hi:i<n:=by
  have:=(aw.mp h).1;simpa using this
 rw[ah,eG hi] at h;cases h;exact#[hi,rfl]
def O3(lo:Int)(n:Nat):(E0 lo n).length=n:=by simp[E0]
section
variable{Z:S}{it a b c:ME}{s:MS}{t:MT}
def Wm{k}{fin}{turn}(I:Nat->S->G->Prop)(hk:∀i Z g,I i Z g->k.Is l g)(h0:I 0 Z g)(hs:∀i x Z g,l[i]?=some x->I i Z g->turn x (I (i+1)) Z g)(hd:∀Z g,I l.length Z g->fin Z g):turns k Z g fin turn:=by
 refine#[λi m Z g=>m=l.length-i/\i<=l.length/\I i Z g,#[l.length,by simp,bO _,h0],?_];rintro i m Z g ⟨rfl,hi,p⟩;rw[hk i Z g p i];by_cases dO:i<l.length
 ·rw[au dO];exact .inr #[_,rfl,I (i+1),λbV g' p'=>#[l.length-(i+1),by omega,rfl,dO,p'],hs i l[i] Z g (au dO) p]
 ·have e:i=l.length:=by omega
  subst e;rw[bq (av _)];exact .inl #[rfl,hd Z g p]
inductive yh(P:fb)(t:MT)(s:MS)(N:Ends)(E:KX)(Z:S)(k:IK)(g1:G):Prop
 |mk (l:List D) (I:Nat->S->G->Prop) (hk:∀i Z g,I i Z g->k.Is l g) (h0:I 0 Z g1)
   (hs:∀i x Z g,l[i]?=some x->I i Z g->jT t x Z λcz=>wpS P s #[I (i+1),N.rt,N.nx,I (i+1)] cz g E) (hd:∀Z g,I l.length Z g->N.nx Z g):yh P t s N E Z k g1
def K4(hP:j8 P)(h:gE P it Z g (yh P t s N E Z) E):wpS P (.fg t it s) N Z g E :=
 F5 hP it _ _ _ _ _ _ (λk g1 hq=>by let#[l,I,hk,h0,hs,hd]:=hq;exact Wm I hk h0 hs hd) (λ_ _ z=>z) h
inductive CompI(P:fb)(t:MT)(cond elt:ME)(E:KX)(Q:KD)(Z:S)(k:IK)(g1:G):Prop
 |mk (l:List D) (I:Nat->List D->S->G->Prop) (hl:l.length<=1000) (hk:∀i ys Z g,I i ys Z g->k.Is l g/\ys.length<=i) (h0:I 0 [] Z g1)
   (hs:∀i x ys Z g,l[i]?=some x->I i ys Z g->jT t x Z λcz=>dP P cond cz g (λc g3=>if c=true then aW P elt cz g3 (λy g4=>I (i+1) (ys++[y]) cz g4) E else I (i+1) ys cz g3) jt)
   (hd:∀ys Z g,I l.length ys Z g->Q (.ref g.length) (g++[.lst ys])):CompI P t cond elt E Q Z k g1
def M7(hP:j8 P)(h:gE P it Z g (CompI P t cond elt jt Q (Q1 Z d6 n)) E):aW P (.comp d6 n t it cond elt) Z g Q E:=by
 refine F5 hP it _ _ _ _ _ _ (λk g1 h=>?_) (λ_ _ z=>z) h;let#[l,I,hl,hk,h0,hs,hd]:=h;refine#[λi m ys Z g=>m=l.length-i/\i<=l.length/\I i ys Z g,#[l.length,by simp,bO _,h0],?_];rintro i m ys Z g ⟨rfl,hi,p⟩;let#[qv,hy]:=hk i ys Z g p;rw[qv i];by_cases dO:i<l.length
 ·rw[au dO];refine .inr #[_,rfl,by omega,A8 (λcz q=>u7 hP cond _ _ _ _ _ _ (λc g3 q=>?_) (λ_ _ z=>z) q) (hs i l[i] ys Z g (au dO) p)];cases c
  ·exact#[l.length-(i+1),by omega,rfl,dO,by simpa using(show I (i+1) ys cz g3 from q)]
  ·exact c9 hP elt _ _ _ _ _ _ (λy g4 q=>#[l.length-(i+1),by omega,rfl,dO,by simpa using q]) (λ_ _ z=>z) q
 ·have e:i=l.length:=by omega
  subst e;rw[bq (av _)];exact .inl #[rfl,hd ys Z g p]
inductive yb(P:fb)(t:MT)(cond elt:ME)(Q:KD)(Z:S)(k:IK)(g1:G):Prop
 |mk (l:List D) (I:Nat->List Int->S->G->Prop) (hl:l.length<60) (hk:∀i ys Z g,I i ys Z g->k.Is l g/\ys.length<=i) (h0:I 0 [] Z g1)
   (hs:∀i x ys Z g,l[i]?=some x->I i ys Z g->jT t x Z λcz=>dP P cond cz g (λc g3=>if c=true then aW P elt cz g3 (λy g4=>∃j,y=.int j/\I (i+1) (ys++[j]) cz g4) jt else I (i+1) ys cz g3) jt)
   (hd:∀ys Z g,I l.length ys Z g->Q (.ref g.length) (g++[.lst ((m5 ys).map .int)])):yb P t cond elt Q Z k g1
def MZ(hP:j8 P)(h:gE P it Z g (yb P t cond elt Q (Q1 Z d6 n)) E):aW P (.gT d6 n t it cond elt) Z g Q E:=by
 refine F5 hP it _ _ _ _ _ _ (λk g1 h=>?_) (λ_ _ z=>z) h;let#[l,I,hl,hk,h0,hs,hd]:=h;refine#[λi m ys Z g=>m=l.length-i/\i<=l.length/\I i ys Z g,#[l.length,by simp,bO _,h0],?_];rintro i m ys Z g ⟨rfl,hi,p⟩;let#[qv,hy]:=hk i ys Z g p;rw[qv i];by_cases dO:i<l.length
 ·rw[au dO];refine .inr #[_,rfl,by omega,A8 (λcz q=>u7 hP cond _ _ _ _ _ _ (λc g3 q=>?_) (λ_ _ z=>z) q) (hs i l[i] ys Z g (au dO) p)];cases c
  ·exact#[l.length-(i+1),by omega,rfl,dO,by simpa using(show I (i+1) ys cz g3 from q)]
  ·refine c9 hP elt _ _ _ _ _ _ (λy g4 q=>?_) (λ_ _ z=>z) q;let#[j,e,q]:=q;exact#[j,e,l.length-(i+1),by omega,rfl,dO,by simpa using q]
 ·have e:i=l.length:=by omega
  subst e;rw[bq (av _)];exact .inl #[rfl,by omega,hd ys Z g p]
def aZ0(hP:j8 P)(h:aW P a Z g (λx g1=>∃j:Nat,x=.int j/\j<=1000/\∃I:Nat->List D->S->G->Prop,I 0 [] (Q1 Z d6 n) g1/\(∀i ys Z g,I i ys Z g->ys.length<=i) /\
      (∀(i:Nat) ys Z g,i<j->I i ys Z g->jT t (.int i) Z λcz=>dP P cond cz g (λc g3=>if c=true then aW P elt cz g3 (λy g4=>I (i+1) (ys++[y]) cz g4) jt else I (i+1) ys cz g3) jt) /\
      ∀ ys Z g,I j ys Z g->Q (.ref g.length) (g ++ [.lst ys])) E):aW P (.comp d6 n t (.fL a) cond elt) Z g Q E:=by
  refine M7 hP ?_;refine c9 hP a _ _ _ _ _ _ (λx g1 h=>?_) (λ_ _ z=>z) h;let#[j,rfl,hj,I,h0,hz,hs,hd]:=h;refine#[j,rfl,by omega,by omega,_,I,by rw[O3];simpa using hj,λi ys Z g p=>#[L3,hz i ys Z g p],h0,λi x ys Z g hx p=>?_,λys Z g p=>hd ys Z g (by rw[O3] at p;simpa using p)];let#[hi,rfl]:=U1 hx;rw[show(0:Int)+(i:Int)=i by omega];exact hs i ys Z g (by simpa using hi) p
def Uq(I:Nat->S->G->Prop)(m0:Nat)(h0:I m0 Z g)(hs:∀m Z g,I m Z g->dP P c Z g (λt g1=>if t=true then wpS P s #[λbV g'=>∃m',m'<m/\I m' bV g',N.rt,N.nx,λbV g'=>∃m',m'<m/\I m' bV g'] Z g1 E else N.nx Z g1) E)(hP:j8 P):wpS P (.kI c s) N Z g E:=by
 refine#[I,#[m0,h0],λm Z g p=>u7 hP c _ _ _ _ _ _ (λt g1 q=>?_) (λ_ _ z=>z) (hs m Z g p)];cases t
 ·exact q
 ·exact#[_,λ_ _ z=>z,q]
def xW(hP:j8 P)(h:aW P a Z g (λx g1=>∃j:Int,x=.int j/\-(2 ^ 62)<=j/\j<2 ^ 62/\R (.fix (E0 0 j.toNat)) g1) E):gE P (.fL a) Z g R E:=h
def b92(hP:j8 P)(h:aW P a Z g (λx g1=>aW P b Z g1 (λy g2=>∃i j:Int,x=.int i/\y=.int j/\(-(2 ^ 62)<=i/\i<2 ^ 62/\-(2 ^ 62)<=j/\j<2 ^ 62)/\R (.fix (E0 i (j-i).toNat)) g2) E) E):gE P (.jo a b) Z g R E:=h
def yJ(hP:j8 P)(h:aW P a Z g (λx g1=>∃l,x=.tup l/\R (.fix l) g1) E):gE P (.eZ a) Z g R E:=by
 exact c9 hP a _ _ _ _ _ _ (λx g1 h=>.inl h) (λ_ _ z=>z) h
def iH(hP:j8 P)(h:aW P a Z g (λx g1=>∃i l,x=.ref i/\d7 g1 i=some l/\R (.lst i) g1) E):gE P (.eZ a) Z g R E:=by
 exact c9 hP a _ _ _ _ _ _ (λx g1 h=>.inr h) (λ_ _ z=>z) h
def QB(h:aW P a Z g (λx g1=>∃i l,x=.ref i/\d7 g1 i=some l/\R (.tS i l.length) g1) E):gE P (.nP a) Z g R E:=h
def By(h:aW P a Z g (λx g1=>∃i l,x=.ref i/\d7 g1 i=some l/\R (.pI i) g1) E):gE P (.kL a) Z g R E:=h
end
end M
namespace M
open PySem L2 PySem.Spec PyProof.Rows
variable{K:PySem.W.Frag}{x:Str}{C:Addr}
structure RF where
 id:Nat
 nm:Str
 N:List Str
 k:Nat
 i:Nat
 m:aR
structure RM where
 id:Nat
 cl:Str
 nm:Str
 qn:Str
 N:List Str
 k:Nat
 i:Nat
 j:Nat
 m:aR
abbrev RF.d(tp:Nat->Stmt)(r:RF):pY:=#[r.nm,r.nm,r.N,r.N.take r.k,tp r.i]
abbrev RM.d(mt:Nat->Nat->Stmt)(r:RM):pY:=#[r.nm,r.qn,r.N,r.N.take r.k,mt r.i r.j]
abbrev uV(F:List RF)(M:List RM)(i:Nat):Option aR:=match F.find? λr=>Nat.beq r.id i with
 |some r=>some r.m
 |none=>(M.find? λr=>Nat.beq r.id i).map (·.m)
section
variable(tp:Nat->Stmt)(mt:Nat->Nat->Stmt)(K:PySem.W.Frag)
abbrev PF:List RF->Prop
 |[]=>True
 |r::l=>(∃f fd,PySem.W.nsIn K mainGlobals r.nm=some (some (.ref f))/\rh K r.nm r.nm (tp r.i) f fd)/\PF l
abbrev PM:List RM->Prop
 |[]=>True
 |r::l=>(∃C f fd,PySem.W.nsIn K mainGlobals r.cl=some (some (.ref C))/\Meth K C r.nm f/\rh K r.nm r.qn (mt r.i r.j) f fd)/\PM l
abbrev PC:List (Str×Nat)->Prop
 |[]=>True
 |r::l=>(∃C,PySem.W.nsIn K mainGlobals r.1=some (some (.ref C))/\je K C/\PySem.W.makesIn K C=true/\PySem.W.keepIn K (.ref C)=true)/\PC l
abbrev PA:List (Str×Str)->Prop
 |[]=>True
 |r::l=>(∃C,PySem.W.nsIn K mainGlobals r.2=some (some (.ref C))/\PySem.W.findIn K (.ref C) r.1=some none)/\PA l
abbrev PB:List Str->Prop
 |[]=>True
 |r::l=>PySem.W.nsIn K mainGlobals r=some none/\PB l
abbrev PX:List Str->Prop
 |[]=>True
 |r::l=>(∃C,PySem.W.nsIn K mainGlobals r=some (some (.ref C))/\PySem.W.excIn K C [.type "ValueError",.type "Exception",.type "BaseException",.type "object"] "ValueError.__new__"=true)/\PX l
abbrev BF:List RF->Prop
 |[]=>True
 |r::l=>(∀(kV doc pm:Value) (an:Option Addr) (fN ct:Value) (us:List Value),us.length=(r.N.take r.k).length->bindArgs (PySem.W.fnOf r.nm r.nm (G0 (tp r.i)) (u4 (tp r.i)) (t8 (tp r.i)) .none kV doc pm an fN ct) #[us,[]]=pure ((r.N.take r.k).zip us))/\BF l
abbrev BM:List RM->Prop
 |[]=>True
 |r::l=>(∀(kV doc pm:Value) (an:Option Addr) (fN ct:Value) (us:List Value),us.length=(r.N.take r.k).length->bindArgs (PySem.W.fnOf r.nm r.qn (G0 (mt r.i r.j)) (u4 (mt r.i r.j)) (t8 (mt r.i r.j)) .none kV doc pm an fN ct) #[us,[]]=pure ((r.N.take r.k).zip us))/\BM l
abbrev YF(c:j4):List RF->Prop
 |[]=>True
 |r::l=>A2 (comp 60) (c.at (r.d tp)) (u4 (tp r.i))=some r.m.body/\YF c l
abbrev YM(c:j4):List RM->Prop
 |[]=>True
 |r::l=>A2 (comp 60) (c.at (r.d mt)) (u4 (mt r.i r.j))=some r.m.body/\YM c l
end
section
variable{tp:Nat->Stmt}{mt:Nat->Nat->Stmt}{c:j4}{id k i j:Nat}{cl nm qn:Str}{N:List Str}{m:aR}{f:Addr}{oc kV doc pm fN ct:Value}{od an:Option Addr}{mh:Array (Option Value)}
def PF.nil:PF tp K []:=trivial
def PF.cons{l}(a:PySem.W.nsIn K mainGlobals nm=some (some (.ref f)))(lk:K.lookup f=some #[oc,od,.func (PySem.W.fnOf nm nm (G0 (tp i)) (u4 (tp i)) (t8 (tp i)) .none kV doc pm an fN ct),mh])(cd:PySem.W.codeIn K fN nm=true)(kp:PySem.W.keepIn K (.ref f)=true)(h:PF tp K l):PF tp K (#[id,nm,N,k,i,m]::l):=#[#[f,_,a,Ka lk cd kp],h]
def PM.nil:PM mt K []:=trivial
def PM.cons{l}(c0:PySem.W.nsIn K mainGlobals cl=some (some (.ref C)))(a:PySem.W.findIn K (.ref C) nm=some (some (.ref f)))(af:PySem.W.isFn K (.ref f)=true)(lk:K.lookup f=some #[oc,od,.func (PySem.W.fnOf nm qn (G0 (mt i j)) (u4 (mt i j)) (t8 (mt i j)) .none kV doc pm an fN ct),mh])(cd:PySem.W.codeIn K fN qn=true)(kp:PySem.W.keepIn K (.ref f)=true)(h:PM mt K l):PM mt K (#[id,cl,nm,qn,N,k,i,j,m]::l):=#[#[C,f,_,c0,#[a,af,kp],Ka lk cd kp],h]
def PC.nil:PC K []:=trivial
def PC.cons{l}(cn:PySem.W.nsIn K mainGlobals x=some (some (.ref C)))(cp:PySem.W.plainGet K C Str.empty=true)(SG:PySem.W.hasDictIn K C=true)(SD:PySem.W.plainOver K C=true)(SA:PySem.W.findIn K (.ref C) "__setattr__"=some (some (.builtin "object.__setattr__")))(SE:PySem.W.makesIn K C=true)(SF:PySem.W.keepIn K (.ref C)=true)(h:PC K l):PC K ((x,i)::l):=#[#[C,cn,#[cp,SG,SD,SA],SE,SF],h]
def PA.nil:PA K []:=trivial
def PA.cons{l}(cn:PySem.W.nsIn K mainGlobals x=some (some (.ref C)))(fl:PySem.W.findIn K (.ref C) nm=some none)(h:PA K l):PA K ((nm,x)::l):=#[#[C,cn,fl],h]
def PB.nil:PB K []:=trivial
def PB.cons{l}(cn:PySem.W.nsIn K mainGlobals x=some none)(h:PB K l):PB K (x::l):=#[cn,h]
def PX.nil:PX K []:=trivial
def PX.cons{l}(cn:PySem.W.nsIn K mainGlobals x=some (some (.ref C)))(q:PySem.W.excIn K C [.type "ValueError",.type "Exception",.type "BaseException",.type "object"] "ValueError.__new__"=true)(h:PX K l):PX K (x::l):=#[#[C,cn,q],h]
def Hk{P:List Value->Prop}{n:Nat}(h:∀a vs,vs.length=n->P (a::vs))(us:List Value)(hl:us.length=n+1):P us:=by
 cases us with
 |nil=>cases hl
 |cons a vs=>exact h a vs (Nat.succ.inj hl)
def Hj{P:List Value->Prop}(h:P [])(us:List Value)(hl:us.length=0):P us:=by
 simp_all
def BF.nil:BF tp []:=trivial
def BF.cons{l}(h:∀(kV doc pm:Value) (an:Option Addr) (fN ct:Value) (us:List Value),us.length=(N.take k).length->bindArgs (PySem.W.fnOf nm nm (G0 (tp i)) (u4 (tp i)) (t8 (tp i)) .none kV doc pm an fN ct) #[us,[]]=pure ((N.take k).zip us))(h2:BF tp l):BF tp (#[id,nm,N,k,i,m]::l):=#[h,h2]
def BM.nil:BM mt []:=trivial
def BM.cons{l}(h:∀(kV doc pm:Value) (an:Option Addr) (fN ct:Value) (us:List Value),us.length=(N.take k).length->bindArgs (PySem.W.fnOf nm qn (G0 (mt i j)) (u4 (mt i j)) (t8 (mt i j)) .none kV doc pm an fN ct) #[us,[]]=pure ((N.take k).zip us))(h2:BM mt l):BM mt (#[id,cl,nm,qn,N,k,i,j,m]::l):=#[h,h2]
def YF.nil:YF tp c []:=trivial
def YF.cons{l}(h:A2 (comp 60) (c.at #[nm,nm,N,N.take k,tp i]) (u4 (tp i))=some m.body)(h2:YF tp c l):YF tp c (#[id,nm,N,k,i,m]::l):=#[h,h2]
def YM.nil:YM mt c []:=trivial
def YM.cons{l}(h:A2 (comp 60) (c.at #[nm,qn,N,N.take k,mt i j]) (u4 (mt i j))=some m.body)(h2:YM mt c l):YM mt c (#[id,cl,nm,qn,N,k,i,j,m]::l):=#[h,h2]
def YF.get:∀{l:List RF},YF tp c l->∀r∈l,A2 (comp 60) (c.at (r.d tp)) (u4 (tp r.i))=some r.m.body
 |_::_,h,r,hr=>(aF.mp hr).elim (λz=>z▸h.1) (YF.get h.2 r)
def YM.get:∀{l:List RM},YM mt c l->∀r∈l,A2 (comp 60) (c.at (r.d mt)) (u4 (mt r.i r.j))=some r.m.body
 |_::_,h,r,hr=>(aF.mp hr).elim (λz=>z▸h.1) (YM.get h.2 r)
def PF.get:∀{l:List RF},PF tp K l->∀r∈l,∃f fd,PySem.W.nsIn K mainGlobals r.nm=some (some (.ref f))/\rh K r.nm r.nm (tp r.i) f fd
 |_::_,h,r,hr=>(aF.mp hr).elim (λz=>z▸h.1) (PF.get h.2 r)
def PM.get:∀{l:List RM},PM mt K l->∀r∈l,∃C f fd,PySem.W.nsIn K mainGlobals r.cl=some (some (.ref C))/\Meth K C r.nm f/\rh K r.nm r.qn (mt r.i r.j) f fd
 |_::_,h,r,hr=>(aF.mp hr).elim (λz=>z▸h.1) (PM.get h.2 r)
def PC.get:∀{l:List (Str×Nat)},PC K l->∀r∈l,∃C,PySem.W.nsIn K mainGlobals r.1=some (some (.ref C))/\je K C/\PySem.W.makesIn K C=true/\PySem.W.keepIn K (.ref C)=true
 |_::_,h,r,hr=>(aF.mp hr).elim (λz=>z▸h.1) (PC.get h.2 r)
def PA.get:∀{l:List (Str×Str)},PA K l->∀r∈l,∃C,PySem.W.nsIn K mainGlobals r.2=some (some (.ref C))/\PySem.W.findIn K (.ref C) r.1=some none
 |_::_,h,r,hr=>(aF.mp hr).elim (λz=>z▸h.1) (PA.get h.2 r)
def PB.get:∀{l:List Str},PB K l->∀r∈l,PySem.W.nsIn K mainGlobals r=some none
 |_::_,h,r,hr=>(aF.mp hr).elim (λz=>z▸h.1) (PB.get h.2 r)
def PX.get:∀{l:List Str},PX K l->∀r∈l,∃C,PySem.W.nsIn K mainGlobals r=some (some (.ref C))/\PySem.W.excIn K C [.type "ValueError",.type "Exception",.type "BaseException",.type "object"] "ValueError.__new__"=true
 |_::_,h,r,hr=>(aF.mp hr).elim (λz=>z▸h.1) (PX.get h.2 r)
def BF.get:∀{l:List RF},BF tp l->∀r∈l,∀(kV doc pm:Value) (an:Option Addr) (fN ct:Value) (us:List Value),us.length=(r.N.take r.k).length->bindArgs (PySem.W.fnOf r.nm r.nm (G0 (tp r.i)) (u4 (tp r.i)) (t8 (tp r.i)) .none kV doc pm an fN ct) #[us,[]]=pure ((r.N.take r.k).zip us)
 |_::_,h,r,hr=>(aF.mp hr).elim (λz=>z▸h.1) (BF.get h.2 r)
def BM.get:∀{l:List RM},BM mt l->∀r∈l,∀(kV doc pm:Value) (an:Option Addr) (fN ct:Value) (us:List Value),us.length=(r.N.take r.k).length->bindArgs (PySem.W.fnOf r.nm r.qn (G0 (mt r.i r.j)) (u4 (mt r.i r.j)) (t8 (mt r.i r.j)) .none kV doc pm an fN ct) #[us,[]]=pure ((r.N.take r.k).zip us)
 |_::_,h,r,hr=>(aF.mp hr).elim (λz=>z▸h.1) (BM.get h.2 r)
end
abbrev yB(N P:List Str)(sc:Scope):Bool:=decide (sc.kind=.function)&&!sc.isCoroutine&&!sc.isGenerator&&decide N.Nodup&&decide (N.take P.length=P)&&P.all (λx=>decide (sc.names.lookup x=some .local)||decide (sc.names.lookup x=some .cell))&&sc.names.all λy=>decide (y.2≠.free)
def OA{N P}{sc}(h:yB N P sc=true):iO N P sc:=by
 unfold yB at h;simp only[Bool.and_eq_true,decide_eq_true_eq,Bool.not_eq_true',List.all_eq_true,Bool.or_eq_true] at h;let#[#[#[#[#[#[h1,h2],h3],h4],h5],h6],h7]:=h;exact#[h1,h2,h3,h4,h5,h6,h7]
def a99{h₀}{mg}{JR}{newId}(X:K.In h₀)(G:h₀.Ns mainGlobals mg)(e:PySem.W.nsIn K mainGlobals x=some (some (.ref C)))(q:PySem.W.excIn K C JR newId=true):PyProof.Rows.OwnCls x C JR newId mg h₀:=by
 refine#[bZ X G e,?_];unfold PySem.W.excIn at q;split at q
 ·rename_i dd cd sl ho;split at q
  ·rename_i C' bm k0 k1 k2 k3 n k5 hm hs;simp only[Bool.and_eq_true,beq_iff_eq,Bool.not_eq_true'] at q;let#[#[#[#[#[z1,z2],wq],ht],bJ],yQ]:=q;subst z1;subst z2;let#[nm,bs,mro,ns,qn,hd,sn,sub,ab,col,del]:=cd;dsimp only at hm wq bJ yQ;subst hm wq;have lg:sl=(List.toArray [k0,k1,k2,k3,some (.builtin n),k5]):=by
    let#[l]:=sl;simp only at hs;rw[hs]
   subst lg;exact#[bm,ns,nm,qn,bs,hd,sn,sub,ab,col,dd,k0,k1,k2,k3,k5,_,X _ _ ho,.of_isNs (PySem.W.isNs_of_in X bJ),PySem.W.nsMap_none_of_in X bJ yQ,PySem.W.tail_of_in X ht]
  ·cases q
 ·cases q
abbrev uL(K:PySem.W.Frag)(x:Str):Addr:=match PySem.W.nsIn K mainGlobals x with
 |some (some (.ref C))=>C
 |_=>0
abbrev Ml(K:PySem.W.Frag)(exc:List Str):Bool:=exc.all λx=>exc.all λy=>decide (PySem.W.exmOne K (.ref (uL K x)) (.ref (uL K y))=some (decide (x=y\/y="MintError")))
def YQ{exc}(h:Ml K exc=true){y}{C'}(hx:exc.contains x=true)(hy:exc.contains y=true)(hC:v5 K x C)(IB:v5 K y C'):PySem.W.exmOne K (.ref C) (.ref C')=some (decide (x=y\/y="MintError")):=by
 have h1:=bt.mp h x (by simpa using hx);have h2:=aM (bt.mp h1 y (by simpa using hy));have e1:uL K x=C:=by unfold uL;simp_all
 have e2:uL K y=C':=by unfold uL;simp_all
 rw[e1,e2] at h2;exact h2
def Gh{α:Type}{f:α->Nat}:∀{l:List α},(l.map f).Nodup->∀r∈l,l.find? (λx=>Nat.beq (f x) (f r))=some r
 |y::l,nd,r,hr=>by
  rw[cx,cP] at nd;rcases aF.mp hr with rfl|hr
  ·rw[List.find?_cons_of_pos];exact Nat.beq_refl _
  ·rw[List.find?_cons_of_neg]
   ·exact Gh nd.2 r hr
   ·intro z;exact nd.1 (ao.mpr #[r,hr,(iP z).symm])
def bD6{α β:Type}{f:α->Nat}{g:β->Nat}{l:List α}{r:β}(h:g r∉l.map f):l.find? (λx=>Nat.beq (f x) (g r))=none:=by
 rw[Pf];intro x hx z;exact h (ao.mpr #[x,hx,iP z])
section
variable{w:World}{h₀:Heap}{mg:Str->Option Value}{c:j4}{F:List RF}{M:List RM}{tp:Nat->Stmt}{mt:Nat->Nat->Stmt}
structure lD(K:PySem.W.Frag)(c:j4)(F:List RF)(M:List RM)(tp:Nat->Stmt)(mt:Nat->Nat->Stmt):Prop where
 qF:PF tp K F
 qM:PM mt K M
 qC:PC K c.cls
 qA:PA K c.oi
 qB:PB K c.blt
 qX:PX K c.exc
 xm:Ml K c.exc=true
structure lC(c:j4)(F:List RF)(M:List RM)(tp:Nat->Stmt)(mt:Nat->Nat->Stmt):Prop where
 cf:c.fns=F.map λr=>(r.nm,r.id)
 cm:c.nN=M.map λr=>(r.nm,r.cl,r.id)
 ci:c.cls.all (λy=>M.any λr=>decide (r.cl=y.1)&&decide (r.nm="__init__")&&Nat.beq r.id y.2)=true
 nd:(F.map (·.id)++M.map (·.id)).Nodup
 sF:F.all (λr=>yB r.N (r.N.take r.k) (t8 (tp r.i))&&decide (r.m.ar=(r.N.take r.k).length)&&decide (r.m.n=r.N.length))=true
 sM:M.all (λr=>yB r.N (r.N.take r.k) (t8 (mt r.i r.j))&&decide (r.m.ar=(r.N.take r.k).length)&&decide (r.m.n=r.N.length))=true
 oF:YF tp c F
 oM:YM mt c M
 bF:BF tp F
 bM:BM mt M
def MN(I:lD K c F M tp mt)(X:lC c F M tp mt)(r:RF)(hr:r∈F):∃f fd,jz K c (r.d tp) r.m f fd/\PySem.W.nsIn K mainGlobals r.nm=some (some (.ref f))/\uV F M r.id=some r.m:=by
 let#[f,fd,a,q]:=I.qF.get r hr;have s:=bt.mp X.sF r hr;simp only[Bool.and_eq_true,decide_eq_true_eq] at s;have o:=X.oF.get r hr;refine#[f,fd,#[q,q.binds (X.bF.get r hr),OA s.1.1,o,s.1.2,s.2],a,?_];unfold uV;rw[Gh (f:=(·.id)) (dn.mp X.nd).1 r hr]
def MO(I:lD K c F M tp mt)(X:lC c F M tp mt)(r:RM)(hr:r∈M):∃C f fd,jz K c (r.d mt) r.m f fd/\PySem.W.nsIn K mainGlobals r.cl=some (some (.ref C))/\Meth K C r.nm f/\uV F M r.id=some r.m:=by
 let#[C,f,fd,a,q1,q]:=I.qM.get r hr;have s:=bt.mp X.sM r hr;simp only[Bool.and_eq_true,decide_eq_true_eq] at s;have o:=X.oM.get r hr;refine#[C,f,fd,#[q,q.binds (X.bM.get r hr),OA s.1.1,o,s.1.2,s.2],a,q1,?_];have nd:=dn.mp X.nd;unfold uV;rw[bD6 (f:=λr:RF=>r.id) (g:=λr:RM=>r.id) (r:=r) (λz=>nd.2.2 _ z _ (ao.mpr #[r,hr,rfl]) rfl),Gh (f:=λr:RM=>r.id) nd.2.1 r hr]
 rfl
def bG6(I:lD K c F M tp mt)(Y:lC c F M tp mt)(X:K.In h₀)(G:h₀.Ns mainGlobals mg)(con:∀x d,c.con.lookup x=some d->∃v u,mg x=some u/\RelV v u/\∀ρ H,f7 K ρ H d v)(sE:∀x kvs,c.gd.lookup x=some kvs->∃A vs,mg x=some (.ref A)/\Ab K w.params A vs/\qL K kvs vs):nE w K mg c (uV F M):=by
 refine#[λx i hx=>?_,λx i hx=>?_,λx y i C hx hC=>?_,λf y C hx hC=>?_,con,λx hx=>?_,λx hx=>?_,λx y C C' hx hy hC IB=>YQ I.xm hx hy hC IB,sE]
 ·have hm:=aO hx;rw[Y.cf] at hm;let#[r,hr,e]:=ao.mp hm;cases e;let#[f,fd,O,a,t]:=MN I Y r hr;exact#[_,_,f,fd,t,O,bZ X G a]
 ·have hm:=aO hx;have h1:=bt.mp Y.ci _ hm;let#[r,hr,e]:=bw.mp h1;simp only[Bool.and_eq_true,decide_eq_true_eq] at e;let#[#[e1,e2],e3]:=e;have e3:=iP e3;let#[C,f,fd,O,a,q,t]:=MO I Y r hr;let#[C',a',hc,mk,kp]:=I.qC.get _ hm;rw[e1] at a;cases a.symm.trans a';rw[e2] at q;rw[e3] at t;exact#[C,_,_,f,fd,t,O,bZ X G a,a,hc,#[mk,q.at_,q.fn,kp]]
 ·rw[Y.cm] at hx;let#[r,hr,e]:=ao.mp hx;cases e;let#[C',f,fd,O,a,q,t]:=MO I Y r hr;cases a.symm.trans hC;exact#[_,_,f,fd,t,O,q]
 ·let#[C',a,q]:=I.qA.get _ hx;cases a.symm.trans hC;exact q
 ·exact PySem.W.mg_none_of X G (I.qB.get x (by simpa using hx))
 ·let#[C,a,q]:=I.qX.get x (by simpa using hx);exact#[_,bZ X G a,a,λbase mP wL=>#[_,_,_,_,a99 mP wL a q,PySem.F.excBase_ValueError]]
end
end M
namespace M
open PySem L2
variable{g g':G}{i j n k a b m r p q hl hd cl qc qf gv lr:Nat}{o o':O}{P:fb}{Q:KD}{E:KX}{ms ns ds:List Int}{l d6 H:List Nat}{α:Type}{c:a9}{x:Str}{y e dd:D}{kb:Bool->Prop}{cs:List a9}{f v lc lf u:Int}{t:MT}{it elt:ME}{w:RW}{rs:List gD}{fs:Fs}{kvs:List (Key×D)}{hs:Hs}
set_option hygiene false
local macro_rules|`(tactic|delta $x:ident)=>`(tactic|dsimp[$x:ident,b9,List.replicate])
local macro_rules|`(tactic|walk_at"w1")=>`(tactic|with_reducible first|refine FV ?_|refine JO ?_|refine JP ?_|refine Yv ?_|refine bF7 ?_|refine Yy ?_|refine M' ?_|refine bF3 ?_|refine JN ?_|refine uJ ?_|refine Bb ?_|(refine w_var (d:=?_) ?_ ?_;rotate_left;·with_unfolding_all rfl)|refine w_lit ?_|refine pU ?_|refine zZ ?_|refine b39 ?_|refine bF4 ?_|refine Um ?_|refine w_and ?_|refine w_or ?_|refine w_not ?_|refine w_ite ?_|refine FU ?_|refine bF6 ?_|refine Uo ?_|refine Fu ?_|refine uI ?_|refine bF2 ?_|refine Yw ?_|refine bF1 ?_|refine M3 ?_|refine JQ ?_|refine b36 ?_|refine b35 ?_|refine Yt ?_|refine Ta ?_|refine SY ?_|refine SX ?_|refine SW ?_|refine b30 ?_|refine Jl ?_|refine b31 ?_|refine b21 ?_|refine b29 ?_|refine b27 ?_|refine b25 ?_|refine b26 ?_|refine b23 ?_|refine b22 ?_|refine b24 ?_|refine sQ ?_|refine Jb ?_|refine Ja ?_|refine IY ?_|refine IZ ?_|refine IX ?_|refine b42 ?_|refine zu ?_|refine YT ?_|refine iV ?_|refine pP ?_|refine Kn ?_|refine b91 ?_|refine HJ ?_|refine Bg ?_|refine bI5 ?_|refine bI6 ?_|refine Hx ?_|refine Xu ?_|refine Hm ?_)
local macro_rules|`(tactic|walk_at"w2")=>`(tactic|repeat(with_reducible first|walk_at "w1"|refine GK (by simp) ?_|refine As (by simp) ?_|refine E5 (a7 (by assumption)) (by with_unfolding_all rfl) ?_|refine xi (a7 (by assumption)) ?_|refine Ac (by unfold oq;decide) ?_))
local macro_rules|`(tactic|walk_at"w3")=>`(tactic|repeat(with_reducible first|walk_at "w1"|refine GK (by simp) ?_|refine As (by simp) ?_|refine E5 (a7 (by assumption)) (by with_unfolding_all rfl) ?_|refine xi (a7 (by assumption)) ?_|refine Ac (by unfold oq;decide) ?_|refine And.intro (show List.length _ <= 1000 from by simp) ?_|refine O0 (by with_unfolding_all rfl) ?_|refine j9 ?_|refine A9 (by with_unfolding_all rfl) ?_))
local macro_rules|`(tactic|walk_at"")=>`(tactic|repeat(with_reducible first|walk_at "w1"|refine Up ?_|refine Yx ?_|refine bF5 ?_|refine IW ?_|refine Yl ?_|refine Hn ?_|refine max2 ?_|refine min2 ?_|refine b05 ?_|refine Y5 ?_|refine Sm ?_|refine II ?_|refine GK (by simp) ?_|refine As (by simp) ?_|refine E5 (a7 (by assumption)) (by with_unfolding_all rfl) ?_|refine xi (a7 (by assumption)) ?_|refine Ac (by unfold oq;decide) ?_|refine And.intro (show List.length _ <= 1000 from by simp) ?_|refine O0 (by with_unfolding_all rfl) ?_|refine j9 ?_|refine A9 (by with_unfolding_all rfl) ?_|refine And.intro (Zh (by assumption)) ?_|refine And.intro (Bt (by assumption)) ?_|refine And.intro (Qt (by assumption)) ?_|refine Z8 (by decide) ?_|refine Fp (by decide) (by decide) ?_|refine By ?_))
set_option hygiene true
@[inline]abbrev cX(a:ME):ME:=.cons a .nil
@[inline]abbrev cY(a b:ME):ME:=.cons a (.cons b .nil)
@[inline]abbrev fj(a b c:ME):ME:=.cons a (.cons b (.cons c .nil))
@[inline]abbrev oS(a b c d:ME):ME:=.cons a (.cons b (.cons c (.cons d .nil)))
@[inline]abbrev qb(a b c d e:ME):ME:=.cons a (.cons b (.cons c (.cons d (.cons e .nil))))
@[inline]abbrev IE(a b c d e f:ME):ME:=.cons a (.cons b (.cons c (.cons d (.cons e (.cons f .nil)))))
@[inline]abbrev IF(a b c d e f g:ME):ME:=.cons a (.cons b (.cons c (.cons d (.cons e (.cons f (.cons g .nil))))))
@[inline]abbrev cN(o:PySem.CmpOp)(a b:ME):ME:=.eB (.prim (.cmp o) (.cons a (.cons b .nil)))
@[inline]abbrev bA(a b:ME):ME:=.prim .ix (.cons a (.cons b .nil))
@[inline]abbrev aT(a:Int):ME:=.lit (.int a)
@[inline]abbrev cv(a:PySem.Str):ME:=.lit (.str a)
@[inline]abbrev cB(p:Pr)(a:ME):ME:=.prim p (.cons a .nil)
@[inline]abbrev bN(p:Pr)(a b:ME):ME:=.prim p (.cons a (.cons b .nil))
@[inline]abbrev aA:ME:=.var 0
@[inline]abbrev aL:ME:=.var 1
@[inline]abbrev mO:ME:=.var 10
@[inline]abbrev qp:ME:=.var 11
@[inline]abbrev qo:ME:=.var 12
@[inline]abbrev qm:ME:=.var 13
@[inline]abbrev aV:ME:=.var 2
@[inline]abbrev bx:ME:=.var 3
@[inline]abbrev dw:ME:=.var 4
@[inline]abbrev fz:ME:=.var 5
@[inline]abbrev gy:ME:=.var 6
@[inline]abbrev jm:ME:=.var 7
@[inline]abbrev jk:ME:=.var 8
@[inline]abbrev mM:ME:=.var 9
abbrev P9:aR:=#[2,5,(.seq (.ifs (.dS (cN .Lt (bA aA (aT 2)) aL) (cN .Lt (bA aA (aT 1)) (cB .len (bA aA (aT 0))))) (.seq (.set 2 (bA (bA aA (aT 0)) (bA aA (aT 1)))) (.seq (.cS aA (aT 1) (bN (.bin .Add) (bA aA (aT 1)) (aT 1))) (.seq (.cS aA (aT 2) (aT 0)) (.seq (.ifs (cN .GtE aV (bN (.bin .Pow) (aT 10) (aT 18))) (.seq (.cS aA (aT 2) aV) .pass) (.seq (.cS aA (aT 3) (bN (.bin .Mod) (bN (.bin .Add) (bN (.bin .Add) (bN (.bin .Mult) (bA aA (aT 3)) (aT 48271)) (bN (.bin .Mult) (bN (.bin .Mod) aV (aT 2147483629)) (aT 69621))) (aT 12345)) (aT 2147483647))) .pass)) .pass)))) .pass) (.seq (.ifs (cN .GtE (bA aA (aT 2)) aL) (.seq (.set 3 (bN (.bin .Mod) (bA aA (aT 2)) aL)) (.seq (.cS aA (aT 2) (bN (.bin .FloorDiv) (bA aA (aT 2)) aL)) (.seq (.ret bx) .pass))) .pass) (.seq (.set 4 (bA aA (aT 3))) (.seq (.cS aA (aT 3) (bN (.bin .Mod) (bN (.bin .Add) (bN (.bin .Add) (bN (.bin .Mult) (bN (.bin .Mod) (bN (.bin .Mult) dw dw) (aT 2147483629)) (aT 5)) (bN (.bin .Mult) dw (aT 16811))) (aT 2531011)) (aT 2147483647))) (.seq (.ret (bN (.bin .Mod) (bN (.bin .Add) (bN (.bin .FloorDiv) (bA aA (aT 3)) (aT 59)) (bN (.bin .Mult) (bN (.bin .Mod) (bA aA (aT 3)) (aT 8191)) (aT 31))) aL)) .pass)))))]
abbrev sV:aR:=#[1,2,(.seq (.set 1 (.call 4 (cY aA (bN (.bin .Pow) (aT 10) (aT 9))))) (.seq (.ifs (cN .Eq (.call 4 (cY aA (aT 2))) (aT 0)) (.seq (.set 1 (bN (.bin .Add) aL (bN (.bin .Pow) (aT 10) (aT 25)))) .pass) .pass) (.seq (.ifs (cN .Eq (.call 4 (cY aA (aT 2))) (aT 0)) (.seq (.ret (bN (.bin .Sub) (cB (.un .USub) (aT 1)) aL)) .pass) .pass) (.seq (.ret aL) .pass))))]
structure n6(g:G)(d:Nat):Prop where
 ex:∃(s:Nat) (p b r:Int) (xs:List Int),g[d]?=some (.lst [.ref s,.int p,.int b,.int r])/\g[s]?=some (.lst (xs.map .int))/\s<d/\0<=p/\0<=b/\0<=r/\r<2147483647
structure Gr(d:Nat)(g g':G):Prop where
 len:g.length<=g'.length
 old:∀i,i≠d->i<g.length->g'[i]?=g[i]?
def Gr.refl(d:Nat)(g:G):Gr d g g:=#[av _,λ_ _ _=>rfl]
def Gr.trans{d}{g g1 g2}(a:Gr d g g1)(b:Gr d g1 g2):Gr d g g2:=#[aD a.len b.len,λi h1 h2=>(b.old i h1 (ay h2 a.len)).trans (a.old i h1 h2)]
def Gr.set(d:Nat)(g:G)(o:O):Gr d g (g.set d o):=#[by simp,λi h1 h2=>aI (aZ h1)]
def Gr.snoc(d:Nat)(g:G)(o:O):Gr d g (g++[o]):=#[by simp,λi h1 h2=>aK h2]
def Gr.at{d}(h:Gr d g g')(hi:i≠d)(e:g[i]?=some o):g'[i]?=some o:=(h.old i hi (aw.mp e).1).trans e
def i8(h:g[i]?=some o):i<g.length:=(aw.mp h).1
def n6.lt{d}(h:n6 g d):d<g.length:=by
 let#[_,_,_,_,_,e,_]:=h.ex;exact i8 e
def n6.snoc{d}(h:n6 g d)(o:O):n6 (g++[o]) d:=by
 let#[s,p,b,r,xs,e1,e2,q]:=h.ex;exact#[s,p,b,r,xs,by rw[aK (i8 e1)];exact e1,by rw[aK (i8 e2)];exact e2,q]
abbrev J1:MS->MS
 |.seq _ b=>b
 |x=>x
def YJ{i j}(h1:-(2 ^ 64)<i)(h2:i<2 ^ 64):sN i j:=.inl #[h1,h2]
def xw{i j}(h1:-(2 ^ 64)<j)(h2:j<2 ^ 64):sN i j:=.inr #[h1,h2]
def a83{d}{n}{N}{c2}(hN:N.rt=Q)(D0:n6 g d)(hn:0<n)(pv:n<1073741824)(h:∀r g',0<=r->r<n->n6 g' d->Gr d g g'->Q (.int r) g'):wpS P (J1 P9.body) N [some (.ref d),some (.int n),c2,none,none] g E:=by
 let#[s,p,b,r,xs,e1,e2,pj,hp,hb,hr,kM]:=D0.ex;have dO:=i8 e1;subst hN;dsimp[P9,J1];walk_at "w2";refine if2 (λc=>?_) (λc=>?_)
 ·walk_at "w2";refine Z8 hn ?_;walk_at "w2";refine Jd #[hn,pv] ?_;walk_at "w2";refine qW e1 (by rfl) ?_;walk_at "w2";refine h _ _ (fR _ ()) (eY _ hn) #[s,p,b / n,r,xs,?_,?_,pj,hp,Int.ediv_nonneg hb (),hr,kM] (Gr.set d g _)
  ·rw[bg dO];rfl
  ·rw[aI (bI pj)];exact e2
 ·walk_at "w2";have Hy:-(2 ^ 64)<r/\r<2 ^ 64:=#[by omega,by omega]
  refine uu (YJ Hy.1 Hy.2) ?_;refine Z8 ∅ ?_;refine uu (xw ∅ ∅) ?_;walk_at "w2";refine uu (xw ∅ ∅) ?_;walk_at "w2";refine Z8 ∅ ?_;walk_at "w2";refine qW e1 (by rfl) ?_;generalize nT:(r*r % 2147483629*5+r*16811+2531011) % 2147483647=r';have q0:0<=r':=by rw[<- nT];exact fR _ ∅
  have q1:r'<2147483647:=by rw[<- nT];exact eY _ ∅
  have DD:(g.set d (.lst [.ref s,.int p,.int b,.int r']))[d]?=some (.lst [.ref s,.int p,.int b,.int r']):=bg dO;change wpS P _ _ _ (g.set d (.lst [.ref s,.int p,.int b,.int r'])) E;walk_at "w2";refine Jd #[by decide,by decide] ?_;walk_at "w2";refine Z8 ∅ ?_;refine uu (xw ∅ ∅) ?_;walk_at "w2";refine Z8 hn ?_;refine h _ _ (fR _ ()) (eY _ hn) #[s,p,b,r',xs,DD,?_,pj,hp,hb,q0,q1] (Gr.set d g _);rw[aI (bI pj)];exact e2
def j7{T}(hT:T 4=some P9){d}{n}(D0:n6 g d)(hn:0<n)(pv:n<1073741824)(h:∀r g',0<=r->r<n->n6 g' d->Gr d g g'->Q (.int r) g'):b7 T (k+1) 4 [.ref d,.int n] g Q E:=by
 let#[s,p,b,r,xs,e1,e2,pj,hp,hb,hr,kM]:=D0.ex;have dO:=i8 e1;refine call_of hT rfl ?_;have tail:∀(g':G) (c2:Option D),n6 g' d->Gr d g g'->wpS (b7 T k) (J1 P9.body) #[λ_ g'=>Q .br g',Q,λ_ _=>False,λ_ _=>False] [some (.ref d),some (.int n),c2,none,none] g' E :=
  λg' c2 D1 gr=>a83 rfl D1 hn pv λr g2 a b c e=>h r g2 a b c (gr.trans e)
 delta P9;walk_at "w2";refine if2 (λc=>?_) (λc=>?_)
 ·walk_at "w2";refine if2 (λc'=>?_) (λc'=>?_)
  ·walk_at "w2";have iu:p.toNat<xs.length:=by
    rw[ai] at c';omega
   have ea:jc (xs.map D.int) p=some (.int xs[p.toNat]):=by
    have:=O9 (xs:=xs.map D.int) (j:=p.toNat) (v:=.int xs[p.toNat]) (by rw[ah,au iu];rfl)
    rwa [show((p.toNat:Nat):Int)=p by omega] at this
   refine E5 (a7 e2) ea ?_;generalize xs[p.toNat]=cell;walk_at "w2";refine qW e1 (by rfl) ?_;have f1:(g.set d (.lst [.ref s,.int (p+1),.int b,.int r]))[d]?=some (.lst [.ref s,.int (p+1),.int b,.int r]):=bg dO;walk_at "w2";refine qW f1 (by rfl) ?_;rw[gh];have f2:(g.set d (.lst [.ref s,.int (p+1),.int 0,.int r]))[d]?=some (.lst [.ref s,.int (p+1),.int 0,.int r]):=bg dO;change wpS (b7 T k) _ _ _ (g.set d (.lst [.ref s,.int (p+1),.int 0,.int r])) E;walk_at "w2";refine if2 (λc2=>?_) (λc2=>?_)
   ·walk_at "w2";refine qW f2 (by rfl) ?_;rw[gh];refine tail _ _ #[s,p+1,cell,r,xs,bg dO,by rw[aI (bI pj)];exact e2,pj,by omega,?_,hr,kM] (Gr.set d g _);have ID:(0:Int)<=10 ^ (18:Int).toNat:=by decide
    omega
   ·walk_at "w2";refine uu (xw ∅ ∅) ?_;walk_at "w2";refine Z8 ∅ ?_;refine uu (xw ∅ ∅) ?_;walk_at "w2";refine Z8 ∅ ?_;walk_at "w2";refine qW f2 (by rfl) ?_;rw[gh];exact tail _ _ #[s,p+1,0,_,xs,bg dO,by rw[aI (bI pj)];exact e2,pj,by omega,by decide,fR _ ∅,eY _ ∅] (Gr.set d g _)
  ·exact tail _ _ D0 (Gr.refl _ _)
 ·exact tail _ _ D0 (Gr.refl _ _)
def FA{T}(hT:T 4=some P9)(RG:T 5=some sV){d}(D0:n6 g d)(h:∀r g',n6 g' d->Gr d g g'->Q (.int r) g'):b7 T (k+2) 5 [.ref d] g Q E:=by
 refine call_of RG rfl ?_;delta sV;walk_at "w2";refine j7 hT D0 ∅ ∅ λr1 g1 _ _ D1 G1=>?_;walk_at "w2";refine j7 hT D1 ∅ ∅ λr2 g2 _ _ D2 G2=>?_;walk_at "w2";have pX:=G1.trans G2;have last:∀(x:Int),wpS (b7 T (k+1)) (J1 (J1 sV.body)) #[λ_ g'=>Q .br g',Q,λ_ _=>False,λ_ _=>False] [some (.ref d),some (.int x)] g2 E:=λx=>by
  dsimp[sV,J1];walk_at "w2";refine j7 hT D2 ∅ ∅ λr3 g3 _ _ D3 G3=>?_;walk_at "w2";refine if2 (λc=>?_) (λc=>?_)
  ·walk_at "w2";exact h _ _ D3 (pX.trans G3)
  ·walk_at "w2";exact h _ _ D3 (pX.trans G3)
 refine if2 (λc=>?_) (λc=>?_)
 ·refine FV ?_;refine JP ?_;refine pU ?_;walk_at "w1";refine pU ?_;walk_at "w1";walk_at "w1";refine Ac (by unfold oq;decide) ?_;walk_at "w1";exact last _
 ·exact last _
abbrev EF:aR:=#[1,1,(.seq (.ret (.dS (bN .isin aA (.lit (.ty "int"))) (.de (bN .isin aA (.lit (.ty "bool")))))) .pass)]
abbrev Fi:aR:=#[3,3,(.seq (.ret (.dS (.call 38 (cX aA)) (.chain .LtE .LtE aL aA aV))) .pass)]
structure NF(T:Nat->Option aR):Prop where
 nf:T 1=some Fi
 is:T 38=some EF
abbrev O4:aR:=#[1,3,(.seq (.set 1 (aT 0)) (.seq (.fg (.one 2) (.eZ aA) (.seq (.ifs (.de (.eB (.call 1 (fj aV aL (aT 7))))) (.seq (.ret (.lit (.bl false))) .pass) .pass) (.seq (.set 1 (bN (.bin .Add) aV (aT 1))) .pass))) (.seq (.ret (.lit (.bl true))) .pass)))]
abbrev Ao:aR:=#[1,1,(.seq (.ret (.prim .lst (oS (cB .list (bN (.lY false true) aA (aT 63))) (aT 0) (aT 0) (aT 29)))) .pass)]
abbrev xX:aR:=#[1,1,(.seq (.ret (.dS (bN .isin aA (.lit (.ty "int"))) (.de (bN .isin aA (.lit (.ty "bool")))))) .pass)]
abbrev M4:aR:=#[2,2,(.seq (.ifs (cN .Is aL (.lit .br)) (.seq (.ret (bN (.cmp .Is) aA (.lit .br))) .pass) .pass) (.seq (.ifs (.eB (bN .isin aL (.lit (.ty "bool")))) (.seq (.ret (.dS (bN .isin aA (.lit (.ty "bool"))) (bN (.cmp .Eq) aA aL))) .pass) .pass) (.seq (.ifs (.eB (bN .isin aL (.lit (.ty "int")))) (.seq (.ret (.dS (.call 6 (cX aA)) (bN (.cmp .Eq) aA aL))) .pass) .pass) (.seq (.ifs (.eB (bN .isin aL (.lit (.ty "str")))) (.seq (.ret (.dS (bN .isin aA (.lit (.ty "str"))) (bN (.cmp .Eq) aA aL))) .pass) .pass) (.seq (.ifs (.gF (cN .NotEq (bN .isin aL (.lit (.ty "tuple"))) (bN .isin aA (.lit (.ty "tuple")))) (cN .NotEq (bN .isin aL (.lit (.ty "list"))) (bN .isin aA (.lit (.ty "list"))))) (.seq (.ret (.lit (.bl false))) .pass) .pass) (.seq (.ifs (cN .NotEq (cB .len aA) (cB .len aL)) (.seq (.ret (.lit (.bl false))) .pass) .pass) (.seq (.ret (cB .all (.comp [1,0] 4 (.one 3) (.fL (cB .len aL)) .no (.call 7 (cY (bA aL bx) (bA aA bx)))))) .pass)))))))]
abbrev xS:aR:=#[1,1,(.seq (.ret (bN (.cmp .Eq) (cB .list aA) (.comp [0] 3 (.one 2) (.fL (aT 8)) (cN .In aV aA) aV))) .pass)]
def R0{g}{n}:∀ms:List Int,(ms.map D.int).mapM (rd g n)=some (ms.map PyData.int)
 |[]=>rfl
 |m::r=>by
  rw[cx,List.mapM_cons,R0 r];cases n<;>rfl
def lay_ints:∀ms:List Int,PyData.canLayAll0 (ms.map PyData.int)=true
 |[]=>by rfl
 |m::r=>by simp[PyData.canLayAll0,PyData.canLay0,lay_ints r]
def Lu:∀ms ns:List Int,PyData.eqvAll (ms.map PyData.int) (ns.map PyData.int)=decide (ms=ns)
 |[],[]=>by rfl
 |[],_::_=>by rfl
 |_::_,[]=>by rfl
 |m::r,n::q=>by
  simp only[List.map_cons,PyData.eqvAll,PyData.eqv,Lu r q];by_cases h:m=n
  ·subst h;simp
  ·simp[h]
def Ob{i}{k}(h:k (ms.any λm=>m==i)):nQ g (.int i) (.tup (ms.map .int)) k:=by
 refine#[_,.inr #[_,_,_,rfl,R0 ms,rfl,lay_ints ms,by rfl,rfl],?_];rw[vg];exact h
def NU{k}(ha:d7 g a=some (ms.map .int))(hb:d7 g b=some (ns.map .int))(h:k (decide (ms=ns))):uo g (.ref a) (.ref b) k:=by
 refine#[_,.inr (.inr (.inr #[.list (ms.map .int),.list (ns.map .int),?_,?_,?_,?_,rfl])),?_]
 ·simp only[rd];rw[ha];dsimp only;rw[R0];rfl
 ·simp only[rd];rw[hb];dsimp only;rw[R0];rfl
 ·simp[PyData.canLay0,lay_ints]
 ·simp[PyData.canLay0,lay_ints]
 ·simp only[PyData.eqv,Lu];exact h
section
variable{T:Nat->Option aR}{d:Nat}
def K0(h1:NF T){i}(h:Q (.bl true) g):b7 T (k+1) 38 [.int i] g Q E:=by
 refine call_of h1.is rfl ?_;delta EF;walk_at "w2";refine gB (c:="int") (b:=true) ∅ rfl ?_;walk_at "w2";refine gB (c:="bool") (b:=false) ∅ rfl ?_;walk_at "w2";exact h
def J9(h1:NF T){i l m}(h:Q (.bl (decide (l<=i)&&decide (i<=m))) g):b7 T (k+2) 1 [.int i,.int l,.int m] g Q E:=by
 refine call_of h1.nf rfl ?_;delta Fi;walk_at "w2";refine K0 h1 ?_;walk_at "w2";refine if2 (λc=>?_) (λc=>?_)
 ·rw[aE c] at h;walk_at "w2";exact h
 ·rw[ax c] at h;exact h
abbrev gm:Int->List Int->Bool
 |_,[]=>true
 |l,x::r=>(decide (l<=x)&&decide (x<=7))&&gm (x+1) r
def LV(h1:NF T)(h2:T 2=some O4)(h:Q (.bl (gm 0 ms)) g):b7 T (k+3) 2 [.tup (ms.map .int)] g Q E:=by
 refine call_of h2 rfl ?_;refine K4 (a8 T _) (yJ (a8 T _) ?_);walk_at "w2";refine#[_,rfl,_,λi Z g'=>g'=g/\∃(l:Int) (z:Option D),Z=[some (.tup (ms.map .int)),some (.int l),z]/\gm 0 ms=gm l (ms.drop i),λ_ _ _ _=>L3,#[rfl,0,none,rfl,rfl],λi x Z g' hx p=>?_,λZ g' p=>?_]
 ·let#[rfl,l,z,rfl,e]:=p;rw[ah] at hx;cases em:ms[i]? with
  |none=>rw[em] at hx;cases hx
  |some m =>
   rw[em] at hx;cases hx;have hi:=(aw.mp em).1;have ed:ms.drop i=m::ms.drop (i+1):=by
    rw[eA hi]
    congr 1
    exact(aw.mp em).2
   rw[ed] at e;simp only[gm] at e;change wpS _ _ _ _ _ _;walk_at "w2";refine J9 h1 ?_;walk_at "w2";cases hc:(decide (l<=m)&&decide (m<=7)) with
   |true =>
    rw[hc,gS] at e;walk_at "w2";exact#[rfl,m+1,some (.int m),rfl,e]
   |false =>
    rw[hc,oR] at e;rw[e] at h;exact h
 ·let#[rfl,l,z,rfl,e]:=p;rw[List.drop_eq_nil_of_le #[_]] at e;rw[e] at h;exact h
def bB0(h3:T 3=some Ao)(hg:g[a]?=some (.pH (ns.map .int)))(h:∀d g',n6 g' d->g.length<=d->(∀i,i<g.length->g'[i]?=g[i]?)->Q (.ref d) g'):b7 T (k+1) 3 [.ref a] g Q E:=by
 refine call_of h3 rfl ?_;delta Ao;walk_at "w2";refine OC (WU hg) ?_;refine GD (l:=cut (ns.map D.int) none (some 63)) (a7 #[_]) ?_;walk_at "w2";have ec:cut (ns.map D.int) none (some 63)=(cut ns none (some 63)).map D.int:=by
  unfold cut;simp[List.map_take,List.map_drop]
 refine h _ _ #[g.length+1,0,0,29,cut ns none (some 63),?_,?_,?_,by decide,by decide,by decide,by decide] #[_] (λi hi=>?_)
 ·simp
 ·rw[<- ec];simp
 ·simp
 ·simp[List.getElem?_append,hi,Nat.lt_of_lt_of_le hi (by omega:g.length<=g.length+1),Nat.lt_of_lt_of_le hi (by omega:g.length<=g.length+1+1)]
def LC(h8:T 8=some xS)(h:∀g',Gr d g g'->(n6 g d->n6 g' d)->Q (.bl (decide (ms=((List.range 8).map λ(n:Nat)=>(n:Int)).filter λs=>ms.any λm=>m==s))) g'):b7 T (k+1) 8 [.tup (ms.map .int)] g Q E:=by
 refine call_of h8 rfl ?_;delta xS;walk_at "w2";refine aZ0 (a8 T _) ?_;walk_at "w2";refine#[8,rfl,by decide,λi ys Z g'=>g'=g++[.lst (ms.map .int)]/\ys.length<=i/\(∃z w,Z=[some (.tup (ms.map .int)),z,w])/\ys=((((List.range i).map λ(n:Nat)=>(n:Int)).filter λs=>ms.any λm=>m==s).map D.int),#[rfl,by simp,#[none,none,rfl],rfl],λi ys Z g' p=>p.2.1,λi ys Z g' hi p=>?_,λys Z g' p=>?_]
 ·let#[rfl,hl,#[z,w,rfl],e]:=p;change dP _ _ _ _ _ _;walk_at "w2";refine qN (Ob ?_);walk_at "w2";have er:(List.range (i+1)).map (λ(n:Nat)=>(n:Int))=(List.range i).map (λ(n:Nat)=>(n:Int))++[(i:Int)]:=by rw[iL];simp
  cases hc:(ms.any λm=>m==(i:Int)) with
  |true =>
   refine iV ?_;walk_at "w2";refine#[rfl,by simp;omega,#[_,_,rfl],?_];rw[er,cA,bE,<- e];simp[hc]
  |false =>
   refine pP ?_;refine#[rfl,by omega,#[_,_,rfl],?_];rw[er,cA,bE,<- e];simp[hc]
 ·let#[rfl,hl,_,e]:=p;rw[e];refine Ax (NU (ms:=ms) (a7 #[_]) (a7 (by simp;rfl)) ?_);exact h _ ((Gr.snoc d g _).trans (Gr.snoc d _ _)) λD0=>(D0.snoc _).snoc _
end
def Jt:∀{ms:List Int} {l:Int},ms.Pairwise (· < ·)->(∀m∈ms,l<=m/\m<=7)->gm l ms=true
 |[],_,_,_=>rfl
 |m::r,l,hp,h=>by
  let#[h1,h2]:=cU.mp hp;have hm:=h m #[_];simp only[gm];rw[aE hm.1,aE hm.2,Jt h2 λx hx=>#[by have:=h1 x hx;omega,(h x (by simp[hx])).2]]
  rfl
def F8{l:List α}{r:Int}(h0:0<=r)(h1:r<l.length):∃v,jc l r=some v/\v∈l:=by
 have hi:r.toNat<l.length:=by omega
 refine#[l[r.toNat],?_,cj hi];have:=O9 (xs:=l) (j:=r.toNat) (v:=l[r.toNat]) (au hi)
 rwa [show((r.toNat:Nat):Int)=r by omega] at this
section
variable{T:Nat->Option aR}
def Mt(h7:T 7=some M4){a b}(h:Q (.bl (a==b)) g):b7 T (k+1) 7 [.bl a,.bl b] g Q E:=by
 refine call_of h7 rfl ?_;delta M4;walk_at "w2";walk_at "w2";refine gB (c:="bool") (b:=true) ∅ rfl ?_;walk_at "w2";refine gB (c:="bool") (b:=true) ∅ rfl ?_;walk_at "w2";exact h
end
def Oh(ms:List Int):gm 0 ms=decide (ms=((List.range 8).map λ(n:Nat)=>(n:Int)).filter λs=>ms.any λm=>m==s):=by
 rw[bf,cK];constructor
 ·intro h;have key:∀(ms:List Int) (l:Int),gm l ms=true->ms.Pairwise (· < ·)/\∀m∈ms,l<=m/\m<=7:=by
   intro ms
   induction ms with
   |nil=>intro l _;exact#[List.Pairwise.nil,by simp]
   |cons m r ih =>
    intro l h;simp only[gm,Bool.and_eq_true,decide_eq_true_eq] at h;let#[#[h1,h2],h3]:=h;let#[p1,p2]:=ih (m+1) h3;refine#[cU.mpr #[λx hx=>by have:=p2 x hx;omega,p1],λx hx=>?_];rcases aF.mp hx with z|z
    ·subst z;exact#[h1,h2]
    ·have:=p2 x z;omega
  let#[p1,p2]:=key ms 0 h;have uniq:∀(xs ys:List Int),xs.Pairwise (· < ·)->ys.Pairwise (· < ·)->(∀z,z∈xs↔z∈ys)->xs=ys:=by
   intro xs
   induction xs with
   |nil =>
    intro ys _ _ h;cases ys with
    |nil=>rfl
    |cons y r=>exact absurd ((h y).mpr #[_]) #[_]
   |cons x xs ih =>
    intro ys hx hy h;cases ys with
    |nil=>exact absurd ((h x).mp #[_]) #[_]
    |cons y ys =>
     let#[a1,a2]:=cU.mp hx;let#[b1,b2]:=cU.mp hy;have Sv:x=y:=by
      rcases aF.mp ((h x).mp #[_]) with z|z
      ·exact z
      ·rcases aF.mp ((h y).mpr #[_]) with w|w
       ·exact w.symm
       ·have:=b1 x z;have:=a1 y w;omega
     subst Sv
     congr 1
     refine ih ys a2 b2 λz=>#[λhz=>?_,λhz=>?_]
     ·rcases aF.mp ((h z).mp (by simp[hz])) with w|w
      ·subst w;exact absurd (a1 z hz) ()
      ·exact w
     ·rcases aF.mp ((h z).mpr (by simp[hz])) with w|w
      ·subst w;exact absurd (b1 z hz) ()
      ·exact w
  refine uniq _ _ p1 ?_ λz=>?_
  ·refine AQ _ ?_
   decide
  ·simp only[List.mem_filter,List.any_eq_true,beq_iff_eq,exists_eq_right,List.mem_map,List.mem_range];refine#[λhz=>#[#[z.toNat,by have:=p2 z hz;omega,by have:=p2 z hz;omega],hz],λhz=>hz.2]
 ·intro h;rw[h];refine Jt ?_ λm hm=>?_
  ·refine AQ _ ?_
   decide
  ·let#[hm,_]:=aS.mp hm;let#[n,hn,rfl]:=ao.mp hm;have:=bj.mp hn;omega
abbrev E9:aR:=#[1,8,(.seq (.nL (.many [1,2,3,4,5]) aA) (.seq (.set 6 (.dS (.call 1 (fj aL (aT 1) (aT 99))) (.call 2 (cX aV)))) (.seq (.set 7 (.dS (.call 1 (fj bx (aT 1) (aT 99))) (.call 2 (cX dw)))) (.seq (.ret (.dS gy (.dS jm (.call 1 (fj fz (aT 0) (aT 9999)))))) .pass))))]
abbrev U3:aR:=#[1,1,(.seq (.ifs (.gF (.de (.eB (.chain .LtE .LtE (aT 1) (bA aA (aT 0)) (aT 99)))) (.gF (.de (.eB (.chain .LtE .LtE (aT 1) (bA aA (aT 2)) (aT 99)))) (.de (.eB (.chain .LtE .LtE (aT 0) (bA aA (aT 4)) (aT 9999)))))) (.seq (.ret (.lit (.bl false))) .pass) .pass) (.seq (.ret (.dS (.call 8 (cX (bA aA (aT 1)))) (.call 8 (cX (bA aA (aT 3)))))) .pass))]
abbrev zV:aR:=#[2,10,(.seq (.set 2 (.call 4 (cY aA (aT 12)))) (.seq (.nL (.many [3,4,5,6,7]) aL) (.seq (.set 8 (bA (.prim .lst (IE (bN .tup (aT 1) (aT 0)) (bN .tup (aT 3) (aT 3)) (cB .tup (aT 8)) (bN .tup (cB (.un .USub) (aT 1)) (aT 2)) (bN .tup (aT 0) (aT 9)) (bN .tup (aT 7) (bN (.bin .Pow) (aT 10) (aT 20))))) (.call 4 (cY aA (aT 6))))) (.seq (.set 9 (bA (.prim .lst (oS (aT 0) (aT 100) (cB (.un .USub) (aT 1)) (.call 5 (cX aA)))) (.call 4 (cY aA (aT 4))))) (.seq (.ifs (cN .Eq aV (aT 0)) (.seq (.ret (.prim .tup (qb mM dw fz gy jm))) .pass) .pass) (.seq (.ifs (cN .Eq aV (aT 1)) (.seq (.ret (.prim .tup (qb bx jk fz gy jm))) .pass) .pass) (.seq (.ifs (cN .Eq aV (aT 2)) (.seq (.ret (.prim .tup (qb bx dw mM gy jm))) .pass) .pass) (.seq (.ifs (cN .Eq aV (aT 3)) (.seq (.ret (.prim .tup (qb bx dw fz jk jm))) .pass) .pass) (.seq (.ifs (cN .Eq aV (aT 4)) (.seq (.ret (.prim .tup (qb bx dw fz gy (bA (.prim .lst (oS (cB (.un .USub) (aT 1)) (aT 10000) (aT 9999) (.call 5 (cX aA)))) (.call 4 (cY aA (aT 4))))))) .pass) .pass) (.seq (.ret aL) .pass))))))))))]
structure a9 where
 lo:Int
 lm:List Int
 up:Int
 um:List Int
 yr:Int
abbrev a9.d(c:a9):D:=.tup [.int c.lo,.tup (c.lm.map .int),.int c.up,.tup (c.um.map .int),.int c.yr]
abbrev j5(c:a9):Bool:=((decide (1<=c.lo)&&decide (c.lo<=99))&&gm 0 c.lm)&&(((decide (1<=c.up)&&decide (c.up<=99))&&gm 0 c.um)&&(decide (0<=c.yr)&&decide (c.yr<=9999)))
section
variable{T:Nat->Option aR}{d:Nat}
def Fm(h1:NF T)(h2:T 2=some O4)(mq:T 12=some E9)(h:Q (.bl (j5 c)) g):b7 T (k+4) 12 [c.d] g Q E:=by
 refine call_of mq rfl ?_;dsimp[E9,b9,List.replicate,a9.d];walk_at "w3";refine J9 h1 ?_;have s1:∀b:Bool,b=((decide (1<=c.lo)&&decide (c.lo<=99))&&gm 0 c.lm)->wpS (b7 T (k+3)) (J1 (J1 E9.body)) #[λ_ g'=>Q .br g',Q,λ_ _=>False,λ_ _=>False] [some c.d,some (.int c.lo),some (.tup (c.lm.map .int)),some (.int c.up),some (.tup (c.um.map .int)),some (.int c.yr),some (.bl b),none] g E:=by
  intro b hb;dsimp[E9,J1];walk_at "w3";refine J9 h1 ?_;have s2:∀b':Bool,b'=((decide (1<=c.up)&&decide (c.up<=99))&&gm 0 c.um)->wpS (b7 T (k+3)) (J1 (J1 (J1 E9.body))) #[λ_ g'=>Q .br g',Q,λ_ _=>False,λ_ _=>False] [some c.d,some (.int c.lo),some (.tup (c.lm.map .int)),some (.int c.up),some (.tup (c.um.map .int)),some (.int c.yr),some (.bl b),some (.bl b')] g E:=by
   intro b' jw;dsimp[E9,J1];have e:j5 c=(b&&(b'&&(decide (0<=c.yr)&&decide (c.yr<=9999)))):=by unfold j5;rw[hb,jw]
   rw[e] at h;walk_at "w3";cases b
   ·exact pP h
   ·refine iV ?_;walk_at "w3";cases b'
    ·exact pP h
    ·refine iV ?_;walk_at "w3";exact J9 h1 h
  refine zu ?_;cases hc:(decide (1<=c.up)&&decide (c.up<=99)) with
  |false=>exact pP (s2 false (by rw[hc];rfl))
  |true =>
   refine iV ?_;walk_at "w1";walk_at "w1";walk_at "w1";walk_at "w1";exact LV h1 h2 (s2 _ (by rw[hc];rfl))
 refine zu ?_;cases hc:(decide (1<=c.lo)&&decide (c.lo<=99)) with
 |false=>exact pP (s1 false (by rw[hc];rfl))
 |true =>
  refine iV ?_;walk_at "w1";walk_at "w1";walk_at "w1";walk_at "w1";exact LV h1 h2 (s1 _ (by rw[hc];rfl))
def KP(h8:T 8=some xS)(yY:T 13=some U3)(h:∀g',Gr d g g'->(n6 g d->n6 g' d)->Q (.bl (j5 c)) g'):b7 T (k+2) 13 [c.d] g Q E:=by
 refine call_of yY rfl ?_;have no:j5 c=false->Q (.bl false) g:=λe=>by
  have:=h g (Gr.refl _ _) id
  rwa [e] at this
 dsimp[U3,b9,List.replicate,a9.d];walk_at "w3";have fin:j5 c=(gm 0 c.lm&&gm 0 c.um)->wpS (b7 T (k+1)) (J1 U3.body) #[λ_ g'=>Q .br g',Q,λ_ _=>False,λ_ _=>False] [some c.d] g E:=λe=>by
  dsimp[U3,J1,a9.d];walk_at "w3";refine LC h8 (d:=d) λg1 G1 D1=>?_;rw[<- Oh];refine zu ?_;have h':=h;rw[e] at h';cases hl:gm 0 c.lm with
  |false =>
   rw[hl,oR] at h';exact pP (h' g1 G1 D1)
  |true =>
   rw[hl,gS] at h';refine iV ?_;walk_at "w3";refine LC h8 (d:=d) λg2 G2 D2=>?_;rw[<- Oh];exact h' g2 (G1.trans G2) λz=>D2 (D1 z)
 have out:j5 c=false->wpS (b7 T (k+1)) (.seq (.ret (.lit (.bl false))) .pass) #[λiN g1=>wpS (b7 T (k+1)) (J1 U3.body) #[λ_ g'=>Q .br g',Q,λ_ _=>False,λ_ _=>False] iN g1 E,Q,λ_ _=>False,λ_ _=>False] [some c.d] g E:=λe=>by
  walk_at "w3";exact no e
 refine if2 (λc1=>?_) (λc1=>?_)
 ·walk_at "w3";cases c2:decide (c.lo<=99) with
  |false=>exact out (by unfold j5;rw[c2];simp)
  |true =>
   walk_at "w3";refine if2 (λc3=>?_) (λc3=>?_)
   ·walk_at "w3";cases c4:decide (c.up<=99) with
    |false=>exact out (by unfold j5;rw[c4];simp)
    |true =>
     walk_at "w3";refine if2 (λc5=>?_) (λc5=>?_)
     ·walk_at "w3";cases c6:decide (c.yr<=9999) with
      |false=>exact out (by unfold j5;rw[c6];simp)
      |true=>exact fin (by unfold j5;rw[aE c1,c2,aE c3,c4,aE c5,c6];simp)
     ·walk_at "w3";exact no (by unfold j5;rw[ax c5];simp)
   ·walk_at "w3";exact no (by unfold j5;rw[ax c3];simp)
 ·walk_at "w3";exact no (by unfold j5;rw[ax c1];simp)
end
def b8:(g++[o])[g.length]?=some o:=by simp
def zy(h:g[i]?=some o):(g++[o'])[i]?=some o:=by rw[aK (i8 h)];exact h
def get_set(h:g[i]?=some o):(g.set i o')[i]?=some o':=bg (i8 h)
def c7(h:g[i]?=some o)(hn:j≠i):(g.set j o')[i]?=some o:=by rw[aI hn];exact h
abbrev zG:aR:=#[1,5,(.seq (.set 1 (.prim .lst (IF (.prim .tup .nil) (cB .tup (aT 0)) (bN .tup (aT 0) (aT 1)) (cB .tup (aT 1)) (.prim .tup (fj (aT 0) (aT 1) (aT 2))) (.prim .tup (oS (aT 0) (aT 1) (aT 2) (aT 7))) (cB .tup (aT 2))))) (.seq (.set 2 (bA aL (.call 4 (cY aA (bA (bN .tup (aT 4) (aT 7)) (cB .int (bN (.cmp .Eq) (.call 4 (cY aA (aT 4))) (aT 0)))))))) (.seq (.set 3 (bA aL (.call 4 (cY aA (aT 5))))) (.seq (.set 4 (bA (.prim .lst (IE (aT 0) (aT 0) (aT 1400) (aT 1400) (aT 1401) (aT 1))) (.call 4 (cY aA (aT 6))))) (.seq (.ret (.prim .tup (qb (bN (.bin .Add) (aT 1) (.call 4 (cY aA (aT 3)))) aV (bN (.bin .Add) (aT 1) (.call 4 (cY aA (aT 4)))) bx dw))) .pass)))))]
structure lF(c:a9):Prop where
 good:j5 c=true
 l8:c.lm.length<=8
 u8:c.um.length<=8
def lF.mk'{lo up yr}{lm um}(h1:1<=lo)(h2:lo<=99)(h3:1<=up)(h4:up<=99)(h5:0<=yr)(h6:yr<=9999)(h7:gm 0 lm=true)(h8:gm 0 um=true)(h9:lm.length<=8)(ID:um.length<=8):lF #[lo,lm,up,um,yr]:=by
 refine#[?_,h9,ID];simp only[j5,h7,h8,decide_eq_true h1,decide_eq_true h2,decide_eq_true h3,decide_eq_true h4,decide_eq_true h5,decide_eq_true h6]
 rfl
def lF.inv(h:lF c):(1<=c.lo/\c.lo<=99)/\gm 0 c.lm=true/\(1<=c.up/\c.up<=99)/\gm 0 c.um=true/\0<=c.yr/\c.yr<=9999:=by
 have:=h.good;unfold j5 at this;simp only[Bool.and_eq_true,decide_eq_true_eq] at this;let#[#[#[a,b],e],#[#[c',d],f],p,q]:=this;exact#[#[a,b],e,#[c',d],f,p,q]
abbrev qV:List (List Int):=[[],[0],[0,1],[1],[0,1,2],[0,1,2,7],[2]]
def bC1:∀ms∈qV,gm 0 ms=true/\ms.length<=8:=by decide
def Mx{r}(h0:0<=r)(h7:r<7):∃ms,jc (qV.map λms=>D.tup (ms.map .int)) r=some (.tup (ms.map .int))/\gm 0 ms=true/\ms.length<=8:=by
 let#[v,hv,hm]:=F8 (l:=qV.map λms=>D.tup (ms.map .int)) h0 (by simpa[qV] using h7);let#[ms,h1,rfl]:=ao.mp hm;exact#[ms,hv,bC1 ms h1]
section
variable{T:Nat->Option aR}{d:Nat}
def aT6(h4:T 4=some P9)(CL:T 22=some zG)(D0:n6 g d)(h:∀c g',lF c->n6 g' d->Gr d g g'->Q c.d g'):b7 T (k+2) 22 [.ref d] g Q E:=by
 refine call_of CL rfl ?_;delta zG;have dl:=D0.lt;left;have D1:=D0.snoc (.lst (qV.map λms=>D.tup (ms.map .int)));have G1:=Gr.snoc d g (.lst (qV.map λms=>D.tup (ms.map .int)));have e1:(g++[O.lst (qV.map λms=>D.tup (ms.map .int))])[g.length]?=some (.lst (qV.map λms=>D.tup (ms.map .int))):=b8;refine j7 h4 D1 ∅ ∅ λr g2 r0 r1 D2 G2=>?_;left;have e2:=G2.at () e1;have hn:∃n:Int,jc [D.int 4,D.int 7] (if decide (r=0)=true then 1 else 0)=some (.int n)/\0<n/\n<=7:=by
  by_cases hr:r=0
  ·exact#[7,by rw[aE hr];rfl,by decide,by decide]
  ·exact#[4,by rw[ax hr];rfl,by decide,by decide]
 let#[n,en,n0,n7]:=hn;refine A9 en ?_;show j7 h4 D2 n0 () λr3 g3 Qc r31 D3 G3=>?_;have e3:=G3.at () e2;let#[lm,el,gl,ll]:=Mx Qc ();refine E5 (a7 e3) el ?_;show j7 h4 D3 ∅ ∅ λr4 g4 Qb r41 D4 G4=>?_;have e4:=G4.at () e3;let#[um,eu,gu,lu]:=Mx Qb ();refine E5 (a7 e4) eu ?_;left;have e5:(g4++[O.lst [.int 0,.int 0,.int 1400,.int 1400,.int 1401,.int 1]])[g4.length]?=some (.lst [.int 0,.int 0,.int 1400,.int 1400,.int 1401,.int 1]):=b8;refine j7 h4 (D4.snoc _) ∅ ∅ λr5 g5 Qa P' D5 G5=>?_;have e6:=G5.at (by have:=D4.lt;omega) e5;let#[v,hv,hm]:=F8 (l:=[D.int 0,.int 0,.int 1400,.int 1400,.int 1401,.int 1]) Qa (by simpa using P');have hy:∃y:Int,v=.int y/\0<=y/\y<=9999:=by
  simp only[List.mem_cons,List.mem_nil_iff,or_false] at hm;rcases hm with rfl|rfl|rfl|rfl|rfl|rfl<;>exact#[_,rfl,by decide,by decide]
 let#[y,rfl,y0,y1]:=hy;refine E5 (a7 e6) hv ?_;show j7 h4 D5 ∅ ∅ λr6 g6 r60 r61 D6 G6=>?_;show j7 h4 D6 ∅ ∅ λr7 g7 r70 r71 D7 G7=>?_;left;exact h #[1+r6,lm,1+r7,um,y] _ (lF.mk' () () () () y0 y1 gl gu ll lu) D7 (G1.trans (G2.trans (G3.trans (G4.trans ((Gr.snoc _ _ _).trans (G5.trans (G6.trans G7)))))))
end
abbrev N1:aR:=#[1,1,(.seq (.ifs (.de (.eB (.call 1 (fj aA (aT 1) (aT 9))))) (.seq (.raise "BadAnvils" (cX (cv "there are from one to nine anvils"))) .pass) .pass) .pass)]
abbrev GH:aR:=#[2,2,(.seq (.ifs (cN .Eq (.call 4 (cY aA (aT 12))) (aT 7)) (.seq (.ret (.call 5 (cX aA))) .pass) .pass) (.seq (.ret (bN (.bin .Sub) (.call 4 (cY aA (bN (.bin .Add) aL (aT 4)))) (aT 2))) .pass))]
abbrev zB:aR:=#[2,2,(.seq (.ret (cB .all (.comp [1] 3 (.one 2) (.eZ aA) .no (bN (.cmp .In) aV aA)))) .pass)]
abbrev S3:aR:=#[1,1,(.seq (.ifs (.de (.eB (.call 12 (cX aA)))) (.seq (.raise "BadCoin" (cX (cv "it is no coin"))) .pass) .pass) .pass)]
abbrev Fg:aR:=#[1,2,(.seq (.ifs (cN .Gt (cB .len aA) (aT 9)) (.seq (.raise "TooMany" (cX (cv "at most nine coins are asked about at once"))) .pass) .pass) (.seq (.fg (.one 1) (.eZ aA) (.seq (.expr (.call 39 (cX aL))) .pass)) .pass))]
abbrev Z4:aR:=#[1,1,(.seq (.ifs (cN .NotIn aA (.lit (.tup [(.str "lower"),(.str "upper")]))) (.seq (.raise "BadSide" (cX (cv "a side is lower or upper"))) .pass) .pass) .pass)]
abbrev ED:aR:=#[1,1,(.seq (.expr (.call 40 (cX aA))) (.seq (.ret (bN .nk (.lit (.tup [(.tup [(.str "lower"),(.int 0)]),(.tup [(.str "upper"),(.int 2)])])) aA)) .pass))]
noncomputable abbrev GV(T:Nat->Option aR):Prop:=T 18=some Fg/\T 39=some S3
noncomputable abbrev AG(T:Nat->Option aR):Prop:=T 19=some ED/\T 40=some Z4
structure Ex(g g':G):Prop where
 len:g.length<=g'.length
 old:∀i,i<g.length->g'[i]?=g[i]?
def Ex.refl(g:G):Ex g g:=#[av _,λ_ _=>rfl]
def Ex.trans{g g1 g2}(a:Ex g g1)(b:Ex g1 g2):Ex g g2:=#[aD a.len b.len,λi h=>(b.old i (ay h a.len)).trans (a.old i h)]
def Ex.snoc(g:G)(o:O):Ex g (g++[o]):=#[by simp,λi h=>aK h]
def Ex.at(h:Ex g g')(e:g[i]?=some o):g'[i]?=some o:=(h.old i (i8 e)).trans e
def Ex.gr(h:Ex g g')(d:Nat):Gr d g g':=#[h.len,λi _ h2=>h.old i h2]
def Ex.draw{d}(h:Ex g g')(D0:n6 g d):n6 g' d:=by
 let#[s,p,b,r,xs,e1,e2,q]:=D0.ex;exact#[s,p,b,r,xs,h.at e1,h.at e2,q]
inductive u5(g:G):Nat->D->D->Prop
 |br {n:Nat}:u5 g n .br .br
 |bl {n:Nat} (b:Bool):u5 g n (.bl b) (.bl b)
 |int {n:Nat} (i:Int):u5 g n (.int i) (.int i)
 |str {n:Nat} (x:Str):u5 g n (.str x) (.str x)
 |tup {n:Nat} {l m:List D} (hl:l.length=m.length) (h:∀(i:Nat) x y,l[i]?=some x->m[i]?=some y->u5 g n x y) (hz:m.length<=1000):u5 g (n+1) (.tup l) (.tup m)
 |lst {n a b:Nat} {l m:List D} (ha:g[a]?=some (.lst l)) (hb:g[b]?=some (.lst m)) (hl:l.length=m.length) (h:∀(i:Nat) x y,l[i]?=some x->m[i]?=some y->u5 g n x y) (hz:m.length<=1000):u5 g (n+1) (.ref a) (.ref b)
def u5.ex(e:Ex g g'){x}(h:u5 g n x y):u5 g' n x y:=by
 induction h with
 |br=>exact .br
 |bl b=>exact .bl b
 |int i=>exact .int i
 |str x=>exact .str x
 |tup hl h hz ih=>exact .tup hl ih hz
 |lst ha hb hl h hz ih=>exact .lst (e.at ha) (e.at hb) hl ih hz
section
variable{T:Nat->Option aR}
def Kd(h6:T 6=some xX){i}(h:Q (.bl true) g):b7 T (k+1) 6 [.int i] g Q E:=by
 refine call_of h6 rfl ?_;delta xX;show gB (c:="int") (b:=true) ∅ rfl ?_;show gB (c:="bool") (b:=false) ∅ rfl ?_;left;exact h
abbrev bC3:MS:=match M4.body with
 |.seq _ (.seq _ (.seq _ (.seq _ (.seq _ b))))=>b
 |x=>x
def R6(h6:T 6=some xX)(h7:T 7=some M4):∀(n:Nat) {k:Nat} {g:G} {x y:D} {Q:KD} {E:KX},u5 g n x y->(∀g',Ex g g'->Q (.bl true) g')->b7 T (k+n+2) 7 [x,y] g Q E:=by
 have vq:∀(n:Nat),(∀{k:Nat} {g:G} {x y:D} {Q:KD} {E:KX},u5 g n x y->(∀g',Ex g g'->Q (.bl true) g')->b7 T (k+n+2) 7 [x,y] g Q E) ->
   ∀{k:Nat} {g:G} {x y:D} {l m:List D} {Q:KD} {E:KX},(∀g',Ex g g'->L1 g' x=some l)->(∀g',Ex g g'->L1 g' y=some m)->l.length=m.length->m.length<=1000->(∀(i:Nat) x y,l[i]?=some x->m[i]?=some y->u5 g n x y)->(∀g',Ex g g'->Q (.bl true) g') ->
   wpS (b7 T (k+n+2)) bC3 #[λ_ g'=>Q .br g',Q,λ_ _=>False,λ_ _=>False] [some x,some y] g E:=by
  intro n ih k g x y l m Q E hx hy hl hz hs hQ;have len:∀(z:D) (l:List D) (g':G) (Q':KD),L1 g' z=some l->Q' (.int l.length) g'->cL .len [z] g' Q':=λz l g' Q' e q=>#[_,_,#[rfl,.inl #[z,l,rfl,e,rfl]],q]
  refine JO (JN (JQ (pU (zZ (w_var rfl (len _ _ _ _ (hx g (Ex.refl g)) ?_))))));refine zZ (w_var rfl (len _ _ _ _ (hy g (Ex.refl g)) ?_));refine Jl ?_;rw[hl,aE rfl];show M7 (a8 T _) (xW (a8 T _) ?_);refine zZ (w_var rfl (len _ _ _ _ (hy g (Ex.refl g)) ?_));refine#[_,rfl,by omega,by omega,E0 0 m.length,λi ys Z g'=>∃z w,ys=List.replicate i (.bl true)/\Z=[some y,some x,z,w]/\Ex g g',by rw[O3];exact hz,λi ys Z g' p=>#[L3,?_],#[none,none,rfl,rfl,Ex.refl g],λi z ys Z g' hz p=>?_,λys Z g' p=>?_]
  ·let#[z,w,rfl,_]:=p;simp
  ·let#[z,w,rfl,rfl,e]:=p;let#[hi,rfl]:=U1 hz;have h1:l[i]?=some l[i]:=au ();have h2:m[i]?=some m[i]:=au hi;have a1:jc l (0+(i:Int))=some l[i]:=by rw[iA];exact O9 h1
   have a2:jc m (0+(i:Int))=some m[i]:=by rw[iA];exact O9 h2
   change dP _ _ _ _ _ _;refine M3 (iV (FU (uI (pU (w_var rfl (w_var rfl #[_,_,#[rfl,.inl #[_,l,_,rfl,hx g' e,a1]],?_]))))));refine uI (pU (w_var rfl (w_var rfl #[_,_,#[rfl,.inl #[_,m,_,rfl,hy g' e,a2]],?_])));refine Fu (ih ((hs i _ _ h1 h2).ex e) λg2 e2=>?_);exact#[_,_,by rw[List.replicate_succ'],rfl,e.trans e2]
  ·let#[z,w,rfl,rfl,e]:=p;refine Ae (a7 b8) (v:=true) ?_ (hQ _ (e.trans (Ex.snoc _ _)));have:List.replicate (E0 0 m.length).length (D.bl true)=(List.replicate (E0 0 m.length).length true).map D.bl:=by simp
   rw[this,zQ];simp
 intro n
 induction n with
 |zero =>
  intro k g x y Q E h hQ;have h0:=hQ g (Ex.refl g);cases h with
  |br =>
   refine call_of h7 rfl ?_;delta M4;left;exact h0
  |bl b=>exact Mt h7 (by simpa using h0)
  |int i =>
   refine call_of h7 rfl ?_;delta M4;show gB (c:="bool") (b:=false) ∅ rfl ?_;show gB (c:="int") (b:=true) ∅ rfl ?_;show Kd h6 ?_;left;simpa using h0
  |str x =>
   refine call_of h7 rfl ?_;delta M4;show gB (c:="bool") (b:=false) ∅ rfl ?_;show gB (c:="int") (b:=false) ∅ rfl ?_;show gB (c:="str") (b:=true) ∅ rfl ?_;show gB (c:="str") (b:=true) ∅ rfl ?_;left;simpa using h0
 |succ n ih =>
  intro k g x y Q E h hQ;have h0:=hQ g (Ex.refl g);cases h with
  |br =>
   refine call_of h7 rfl ?_;delta M4;left;exact h0
  |bl b=>exact Mt h7 (by simpa using h0)
  |int i =>
   refine call_of h7 rfl ?_;delta M4;show gB (c:="bool") (b:=false) ∅ rfl ?_;show gB (c:="int") (b:=true) ∅ rfl ?_;show Kd h6 ?_;left;simpa using h0
  |str x =>
   refine call_of h7 rfl ?_;delta M4;show gB (c:="bool") (b:=false) ∅ rfl ?_;show gB (c:="int") (b:=false) ∅ rfl ?_;show gB (c:="str") (b:=true) ∅ rfl ?_;show gB (c:="str") (b:=true) ∅ rfl ?_;left;simpa using h0
  |@tup _ l m hl hs hz =>
   refine call_of h7 rfl ?_;have body:=vq n ih (k:=k) (x:=.tup l) (y:=.tup m) (E:=E) (λ_ _=>rfl) (λ_ _=>rfl) hl hz hs hQ;delta M4;show gB (c:="bool") (b:=false) ∅ rfl ?_;show gB (c:="int") (b:=false) ∅ rfl ?_;show gB (c:="str") (b:=false) ∅ rfl ?_;show gB (c:="tuple") (b:=true) ∅ rfl ?_;show gB (c:="tuple") (b:=true) ∅ rfl ?_;show ei rfl ?_;show gB (c:="list") (b:=false) ∅ rfl ?_;show gB (c:="list") (b:=false) ∅ rfl ?_;show ei rfl (uJ ?_);exact body
  |@lst _ a b l m ha hb hl hs hz =>
   refine call_of h7 rfl ?_;have body:=vq n ih (k:=k) (x:=.ref a) (y:=.ref b) (E:=E) (λg' e=>a7 (e.at ha)) (λg' e=>a7 (e.at hb)) hl hz hs hQ;have ta:∀c,sR g (.ref a) c=some (c=="list"):=λc=>by simp only[sR,ha]
   have tb:∀c,sR g (.ref b) c=some (c=="list"):=λc=>by simp only[sR,hb]
   delta M4;show gB (c:="bool") (b:=false) ∅ (tb _) ?_;show gB (c:="int") (b:=false) ∅ (tb _) ?_;show gB (c:="str") (b:=false) ∅ (tb _) ?_;show gB (c:="tuple") (b:=false) ∅ (tb _) ?_;show gB (c:="tuple") (b:=false) ∅ (ta _) ?_;show ei rfl ?_;show gB (c:="list") (b:=true) ∅ (tb _) ?_;show gB (c:="list") (b:=true) ∅ (ta _) ?_;show ei rfl (uJ ?_);exact body
end
def Ex.Ku(h:Gr g.length g g'):Ex g g':=#[h.len,λi hi=>h.old i () hi]
abbrev oU(a b:List Int):Bool:=a.all λs=>b.any λm=>m==s
section
variable{T:Nat->Option aR}{d:Nat}
def Ou(qy:T 15=some zB){a b}(ha:a.length<=1000)(h:∀g',Ex g g'->Q (.bl (oU a b)) g'):b7 T (k+1) 15 [.tup (a.map .int),.tup (b.map .int)] g Q E:=by
 refine call_of qy rfl ?_;delta zB;show M7 (a8 T _) (yJ (a8 T _) ?_);show#[_,rfl,_,λi ys Z g'=>∃z w,ys=((a.take i).map λs=>b.any λm=>m==s).map D.bl/\Z=[some (.tup (b.map .int)),z,w]/\g'=g,by simpa using ha,λi ys Z g' p=>#[L3,?_],#[none,none,rfl,rfl,rfl],λi x ys Z g' hx p=>?_,λys Z g' p=>?_]
 ·let#[z,w,rfl,_]:=p;simp;omega
 ·let#[z,w,rfl,rfl,rfl]:=p;rw[ah,aa] at hx;let#[s,hs,rfl]:=hx;show qN (Ob ?_);refine#[_,_,?_,rfl,rfl];rw[bh,hs];simp
 ·let#[z,w,rfl,rfl,rfl]:=p;refine Ae (a7 b8) (zQ _) ?_;have e:((a.take (a.map D.int).length).map λs=>b.any λm=>m==s).all id=oU a b:=by
   simp[oU,List.all_map]
  rw[e];exact h _ (Ex.snoc _ _)
def UX(hx:PyData.strOk x=true)(h:kb (decide (x="lower")||decide (x="upper"))):nQ g (.str x) (.tup [.str "lower",.str "upper"]) kb:=by
 refine#[_,.inr #[_,[.str "lower",.str "upper"],.str x,rfl,rfl,rfl,by decide +kernel,by exact hx,rfl],?_];have e:∀y:Str,PyData.eqv (.str y) (.str x)=decide (x=y):=λy=>by
  simp only[PyData.eqv];rw[bf,eX,cK];exact eq_comm
 simp only[List.any_cons,List.any_nil,Bool.or_false,e];exact h
def L5(RZ:T 40=some Z4)(ho:PyData.strOk x=true)(h1:x="lower"\/x="upper"->Q .br g)(h3:x≠"lower"->x≠"upper"->E #["BadSide"] g):b7 T (k+1) 40 [.str x] g Q E:=by
 refine call_of RZ rfl ?_;delta Z4;show J6 (UX ho ?_);left;by_cases e:x="lower"\/x="upper"
 ·refine ei (by rw[Bool.not_eq_false',dN,cK,cK];exact e) ?_;exact h1 e
 ·refine eM (by rw[kG,Bool.or_eq_false_iff,tH,tH];exact not_or.mp e) ?_;left;exact h3 (λz=>e (.inl z)) (λz=>e (.inr z))
def F7(iZ:AG T)(ho:PyData.strOk x=true)(h1:x="lower"->Q (.int 0) g)(h2:x="upper"->Q (.int 2) g)(h3:x≠"lower"->x≠"upper"->E #["BadSide"] g):b7 T (k+2) 19 [.str x] g Q E:=by
 refine call_of iZ.1 rfl ?_;delta ED;show L5 iZ.2 ho (λhx=>?_) h3;left;by_cases e1:x="lower"
 ·have el:V9 [.tup [.str "lower",.int 0],.tup [.str "upper",.int 2]] x=some (.int 0):=by simp[V9,e1]
  refine Js el ?_;exact h1 e1
 ·have e2:x="upper":=hx.resolve_left e1;have el:V9 [.tup [.str "lower",.int 0],.tup [.str "upper",.int 2]] x=some (.int 2):=by simp[V9,e1];simp[e2]
  refine Js el ?_;exact h2 e2
abbrev CB(c:a9):Prop:=c.lm.length<=8/\c.um.length<=8
def V5(h1:NF T)(h2:T 2=some O4)(mq:T 12=some E9)(pG:GV T)(ha:g[a]?=some (.lst (cs.map a9.d)))(hz:cs.length<=1000)(hm:9<cs.length->E #["TooMany"] g)(hb:cs.length<=9->cs.all j5=false->E #["BadCoin"] g)(h:cs.length<=9->cs.all j5=true->Q .br g):b7 T (k+6) 18 [.ref a] g Q E:=by
 refine call_of pG.1 rfl ?_;delta Fg;left;rw[ai];refine if2 (λc=>?_) (λc=>?_)
 ·left;exact hm ()
 have h9:cs.length<=9:=by omega
 show K4 (a8 T _) (iH (a8 T _) ?_);show#[a,_,rfl,a7 ha,cs.map a9.d,λi Z g'=>∃z,Z=[some (.ref a),z]/\g'=g/\(cs.take i).all j5=true,λi Z g' p=>?_,#[none,rfl,rfl,by simp],λi x Z g' hx p=>?_,λZ g' p=>?_]
 ·let#[z,rfl,rfl,_]:=p;exact n9 (a7 ha)
 ·let#[z,rfl,rfl,hg]:=p;rw[ah,aa] at hx;let#[c,hc,rfl]:=hx;refine j9 ?_;show call_of pG.2 rfl ?_;delta S3;show Fm h1 h2 mq ?_;left;cases e:j5 c with
  |true =>
   refine#[_,rfl,rfl,?_];rw[bh,hc];simp[hg,e]
  |false =>
   refine Kn ?_;show hb h9 ?_;rw[List.all_eq_false];exact#[c,aJ hc,by rw[e];decide]
 ·let#[z,rfl,rfl,hg]:=p;rw[ai,bu] at hg;exact h h9 hg
end
section
variable{T:Nat->Option aR}{d:Nat}
def aH4(h4:T 4=some P9)(h5:T 5=some sV)(yX:T 14=some zV)(hB:CB c)(D0:n6 g d)(h:∀(c':a9) g',CB c'->n6 g' d->Gr d g g'->Q c'.d g'):b7 T (k+3) 14 [.ref d,c.d] g Q E:=by
 refine call_of yX rfl ?_;dsimp[zV,b9,List.replicate,a9.d];show j7 h4 D0 ∅ ∅ λway g1 _ _ D1 G1=>?_;show j7 h4 (D1.snoc _) ∅ ∅ λr g2 r0 r1 D2 G2=>?_;have e2:=G2.at (i:=g1.length) (by have:=D1.lt;omega) (o:=.lst ([[1,0],[3,3],[8],[-1,2],[0,9],[7,10 ^ 20]].map λl=>D.tup (l.map D.int))) #[_];let#[v,hv,hm]:=F8 (l:=[[1,0],[3,3],[8],[-1,2],[0,9],[7,10 ^ 20]].map λl=>D.tup (l.map D.int)) r0 (by simpa using r1);let#[odd,ho,rfl]:=ao.mp hm;have vU:odd.length<=8:=by
  simp only[List.mem_cons,List.mem_nil_iff,or_false] at ho;rcases ho with rfl|rfl|rfl|rfl|rfl|rfl<;>decide
 refine E5 (a7 e2) hv ?_;show FA h4 h5 D2 λf g3 D3 G3=>?_;show j7 h4 (D3.snoc _) ∅ ∅ λr' g4 Qi Qh D4 G4=>?_;have e4:=G4.at (i:=g3.length) (by have:=D3.lt;omega) (o:=.lst ([0,100,-1,f].map D.int)) #[_];let#[v',vP,lN]:=F8 (l:=[0,100,-1,f].map D.int) Qi (by simpa using Qh);let#[num,_,rfl]:=ao.mp lN;refine E5 (a7 e4) vP ?_;have G:Gr d g g4:=G1.trans ((Gr.snoc _ _ _).trans (G2.trans (G3.trans ((Gr.snoc _ _ _).trans G4))));show if2 (λ_=>?_) (λ_=>?_)
 ·left;exact h #[num,c.lm,c.up,c.um,c.yr] g4 hB D4 G
 show if2 (λ_=>?_) (λ_=>?_)
 ·left;exact h #[c.lo,odd,c.up,c.um,c.yr] g4 #[vU,hB.2] D4 G
 show if2 (λ_=>?_) (λ_=>?_)
 ·left;exact h #[c.lo,c.lm,num,c.um,c.yr] g4 hB D4 G
 show if2 (λ_=>?_) (λ_=>?_)
 ·left;exact h #[c.lo,c.lm,c.up,odd,c.yr] g4 #[hB.1,vU] D4 G
 show if2 (λ_=>?_) (λ_=>?_)
 ·show FA h4 h5 D4 λf' g5 D5 G5=>?_;show j7 h4 (D5.snoc _) ∅ ∅ λr'' g6 Bl Bk D6 G6=>?_;have e6:=G6.at (i:=g5.length) (by have:=D5.lt;omega) (o:=.lst ([-1,10000,9999,f'].map D.int)) #[_];let#[v'',BH,BU]:=F8 (l:=[-1,10000,9999,f'].map D.int) Bl (by simpa using Bk);let#[Bn,_,rfl]:=ao.mp BU;refine E5 (a7 e6) BH ?_;left;exact h #[c.lo,c.lm,c.up,c.um,Bn] g6 hB D6 (G.trans (G5.trans ((Gr.snoc _ _ _).trans G6)))
 left;exact h c g4 hB D4 G
end
abbrev H9(f:Int)(c:a9):Int:=if f=0 then c.lo else c.up
def uA(hf:f=0\/f=2)(c:a9):jc [D.int c.lo,D.tup (c.lm.map .int),D.int c.up,D.tup (c.um.map .int),D.int c.yr] f=some (.int (H9 f c)):=by
 rcases hf with rfl|rfl<;>rfl
abbrev Ap:aR:=#[1,1,(.seq (.ifs (cN .Eq (.call 4 (cY aA (aT 14))) (aT 9)) (.seq (.ret (bA (.prim .lst (oS (cv "") (cv "Lower") (cv "both") (cv "upper "))) (.call 4 (cY aA (aT 4))))) .pass) .pass) (.seq (.ret (bA (bN .lst (cv "lower") (cv "upper")) (.call 4 (cY aA (aT 2))))) .pass))]
section
variable{T:Nat->Option aR}{d:Nat}
def TY(h4:T 4=some P9)(CD:T 29=some Ap)(D0:n6 g d)(h:∀x g',PyData.strOk x=true->n6 g' d->Gr d g g'->Q (.str x) g'):b7 T (k+2) 29 [.ref d] g Q E:=by
 refine call_of CD rfl ?_;delta Ap;show j7 h4 D0 ∅ ∅ λr g1 _ _ D1 G1=>?_;show if2 (λc=>?_) (λc=>?_)
 ·show j7 h4 (D1.snoc _) ∅ ∅ λr g2 r0 r1 D2 G2=>?_;have e2:=G2.at (i:=g1.length) (by have:=D1.lt;omega) (o:=.lst (([("":Str),("Lower":Str),("both":Str),("upper ":Str)]:List Str).map D.str)) #[_];let#[v,hv,hm]:=F8 (l:=([("":Str),("Lower":Str),("both":Str),("upper ":Str)]:List Str).map D.str) r0 (by simpa using r1);let#[x,hx,rfl]:=ao.mp hm;refine E5 (a7 e2) hv ?_;show h x g2 ?_ D2 (G1.trans ((Gr.snoc _ _ _).trans G2));simp only[List.mem_cons,List.mem_nil_iff,or_false] at hx;rcases hx with rfl|rfl|rfl|rfl<;>decide +kernel
 ·show j7 h4 (D1.snoc _) ∅ ∅ λr g2 r0 r1 D2 G2=>?_;have e2:=G2.at (i:=g1.length) (by have:=D1.lt;omega) (o:=.lst (([("lower":Str),("upper":Str)]:List Str).map D.str)) #[_];let#[v,hv,hm]:=F8 (l:=([("lower":Str),("upper":Str)]:List Str).map D.str) r0 (by simpa using r1);let#[x,hx,rfl]:=ao.mp hm;refine E5 (a7 e2) hv ?_;show h x g2 ?_ D2 (G1.trans ((Gr.snoc _ _ _).trans G2));simp only[List.mem_cons,List.mem_nil_iff,or_false] at hx;rcases hx with rfl|rfl<;>decide +kernel
end
def zR(ha:g[a]?=some (.lst [.str "lower",.str "upper"]))(hx:PyData.strOk x=true)(h:kb (decide (x="lower")||decide (x="upper"))):nQ g (.str x) (.ref a) kb:=by
 refine#[_,.inr #[_,[.str "lower",.str "upper"],.str x,a7 ha,rfl,rfl,by simp only[PyData.canLayAll0,PyData.canLay0,Bool.and_true];decide +kernel,by simp only[PyData.canLay0];exact hx,rfl],?_];have e:∀y:Str,PyData.eqv (.str y) (.str x)=decide (x=y):=λy=>by
  simp only[PyData.eqv];rw[bf,eX,cK];exact eq_comm
 simp only[List.any_cons,List.any_nil,Bool.or_false,e];exact h
def WZ{l}(ha:g[a]?=some (.lst l))(hb:g[b]?=some (.lst l))(h:∀x∈l,(∃i,x=.int i)\/∃y,x=.str y)(hz:l.length<=1000):u5 g 1 (.ref a) (.ref b):=by
 refine .lst ha hb rfl (λi x y hx hy=>?_) hz;rw[hx] at hy;cases hy;rcases h x (aJ hx) with⟨j,rfl⟩|⟨y,rfl⟩
 ·exact .int _
 ·exact .str _
abbrev cD:a9:=#[0,[],0,[],0]
noncomputable abbrev fk(cs:List a9)(i:Nat):a9:=cs.getD i cD
def X8(h:cs[i]?=some c):fk cs i=c:=by simp[fk,List.getD,h]
inductive RW where
 |dR|lower|upper
abbrev RW.s:RW->Str
 |.dR=>"coin"
 |.lower=>"lower"
 |.upper=>"upper"
structure gD where
 w:RW
 x:Int
 y:Int
abbrev gD.d(r:gD):D:=.tup [.str r.w.s,.int r.x,.int r.y]
abbrev meant(cs:List a9)(w:RW)(x:Int)(i:Nat):Bool:=match w with
 |.dR=>decide ((i:Int)=x)
 |.lower=>decide ((fk cs i).lo=x)
 |.upper=>decide ((fk cs i).up=x)
abbrev iG(cs:List a9)(w:RW)(x:Int):List Nat:=(List.range cs.length).filter (meant cs w x)
abbrev b0(l:List Nat):List D:=l.map λ(i:Nat)=>D.int i
abbrev qj(l:List Nat):Nat:=(l.map (2 ^ ·)).sum
abbrev iE(n:Nat)(p:Nat->Bool):Nat:=qj ((List.range n).filter p)
def NH(n:Nat)(p:Nat->Bool):iE (n+1) p=iE n p+if p n=true then 2 ^ n else 0:=by
 unfold iE qj;rw[iL,cA,bE,List.sum_append];cases h:p n<;>simp[List.filter_cons,h]
def bI2(n:Nat)(p:Nat->Bool):iE n p<2 ^ n:=by
 induction n with
 |zero=>simp[iE,qj]
 |succ n ih =>
  rw[NH,Nat.pow_succ];split<;>omega
def MW(n:Nat)(p:Nat->Bool)(i:Nat):(iE n p).testBit i=(decide (i<n)&&p i):=by
 induction n with
 |zero=>simp[iE,qj]
 |succ n ih =>
  have hl:=bI2 n p;rw[NH];by_cases hp:p n=true
  ·rw[aH hp,Nat.add_comm];rcases fm i n with h|h|h
   ·rw[Nat.testBit_two_pow_add_gt h,ih,aE h,aE ()]
   ·subst h;rw[Nat.testBit_two_pow_add_eq,ih];simp[hp]
   ·rw[Nat.testBit_lt_two_pow (ay (show 2 ^ n+iE n p<2 ^ (n+1) by omega) (AM () h)),ax ()]
    rfl
  ·rw[az hp,Nat.add_zero,ih];by_cases h:i=n
   ·subst h;simp[hp]
   ·rw[show decide (i<n)=decide (i<n+1) from fF.mpr ()]
def Gd(a b:Nat):Builtin.bitAnd (a:Int) (b:Int)=((a &&& b:Nat):Int):=by
 rfl
def Zw(a b:Nat):Builtin.bitOr (a:Int) (b:Int)=((a |||b:Nat):Int):=by
 unfold Builtin.bitOr Builtin.bitAnd;have h1:∀x:Nat,decide (0<=Builtin.bitNot (x:Int))=false:=λx=>by unfold Builtin.bitNot;exact ax ()
 have h2:∀x:Nat,Builtin.bitNot (Builtin.bitNot (x:Int))=x:=λx=>by unfold Builtin.bitNot;omega
 rw[h1,h1];simp only[h2];simp
def YB(a b:Nat):((a &&& b:Nat)≠0)↔∃i,a.testBit i=true/\b.testBit i=true:=by
 constructor
 ·intro h;let#[i,hi]:=Nat.exists_testBit_of_ne_zero h;rw[Nat.testBit_and,aP] at hi;exact#[i,hi]
 ·rintro⟨i,h1,h2⟩ e;have:(a &&& b).testBit i=true:=by rw[Nat.testBit_and,h1,h2];rfl
  rw[e,Nat.zero_testBit] at this;cases this
def zt(s n:Nat)(p:Nat->Bool):((((s &&& iE n p:Nat):Int) != 0)=(List.range n).any λi=>s.testBit i&&p i):=by
 rw[bf,bne_iff_ne,bw];have:(((s &&& iE n p:Nat):Int)≠0)↔((s &&& iE n p:Nat)≠0):=by omega
 rw[this,YB];constructor
 ·rintro⟨i,h1,h2⟩;rw[MW,aP,dg] at h2;exact#[i,bj.mpr h2.1,by rw[h1,h2.2];rfl]
 ·rintro⟨i,h1,h2⟩;rw[aP] at h2;exact#[i,h2.1,by rw[MW,aE (bj.mp h1),h2.2];rfl]
abbrev mw(a b:a9):Bool:=(decide (a.lo=b.lo)&&!oU a.lm b.lm)||(decide (a.up=b.up)&&!oU a.um b.um)
abbrev kK(a b:a9):Bool:=decide (0<b.yr)&&decide (b.yr<a.yr)
abbrev Y8(cs:List a9)(S:Nat->Bool)(p:Nat):Bool:=(List.range cs.length).any λi=>S i&&mw (fk cs i) (fk cs p)
abbrev X0(cs:List a9)(S:Nat->Bool)(p:Nat):Bool:=(List.range cs.length).any λi=>S i&&kK (fk cs i) (fk cs p)
abbrev uW(cs:List a9)(S:Nat->Bool)(p:Nat)(d:Int):Bool :=
 ((List.range cs.length).any λi=>(S i||decide (i=p))&&decide ((fk cs i).lo=d))&&((List.range cs.length).any λi=>!S i&&decide ((fk cs i).lo=d))
abbrev qP(cs:List a9)(S:Nat->Bool)(p:Nat):Nat:=((m5 (cs.map a9.lo)).filter (uW cs S p)).length
abbrev ux(cs:List a9)(rs:List gD)(S:Nat->Bool)(p:Nat):Bool:=rs.all λr=>!meant cs r.w r.y p||(List.range cs.length).any λi=>S i&&meant cs r.w r.x i
abbrev fault(cs:List a9)(v:Int)(rs:List gD)(S:Nat->Bool)(p:Nat):Str :=
 if Y8 cs S p=true then "wear" else if X0 cs S p=true then "year" else if v<qP cs S p then "anvil" else if ux cs rs S p=true then "" else "rule"
abbrev zb(x:Str):D:=if x="" then .br else .str x
abbrev X6:aR:=#[3,4,(.seq (.ifs (.de (.eB (.call 38 (cX aV)))) (.seq (.ret (.prim .lst .nil)) .pass) .pass) (.seq (.ifs (cN .Eq aL (cv "coin")) (.seq (.ret (.comp [2] 3 (.one 2) (.fL (cB .len aA)) (cN .Eq aV aA) aV)) .pass) .pass) (.seq (.set 3 (.call 19 (cX aL))) (.seq (.ret (.comp [3,2] 5 (.many [3,4]) (.kL aA) (cN .Eq (bA dw aA) aL) bx)) .pass))))]
abbrev xI:aR:=#[2,3,(.seq (.expr (.call 18 (cX aA))) (.seq (.set 2 (.call 19 (cX aL))) (.seq (.ret (.gT [2] 3 (.one 2) (.eZ aA) .no (bA aV aA))) .pass)))]
abbrev EE:aR:=#[2,5,(.seq (.nL (.many [2,3,4]) aL) (.seq (.ifs (.gF (cN .NotIn aV (.lit (.tup [(.str "coin"),(.str "lower"),(.str "upper")]))) (cN .Eq bx dw)) (.seq (.ret (.lit (.bl false))) .pass) .pass) (.seq (.ret (.dS (bN (.cmp .NotEq) (.call 74 (fj aA aV bx)) (.prim .lst .nil)) (bN (.cmp .NotEq) (.call 74 (fj aA aV dw)) (.prim .lst .nil)))) .pass)))]
abbrev Fh:aR:=#[2,4,(.seq (.fg (.many [2,3]) (.kL aL) (.seq (.ifs (.de (.eB (.call 88 (cY aA bx)))) (.seq (.expr .no) .pass) .pass) .pass)) .pass)]
abbrev zJ:aR:=#[1,1,(.seq (.ret (cB .sum (.comp [] 2 (.one 1) (.eZ aA) .no (bN (.bin .LShift) (aT 1) aL)))) .pass)]
abbrev zW:aR:=#[2,2,(.seq (.ret (bN (.bin .BitOr) aA (bN (.bin .LShift) (aT 1) aL))) .pass)]
abbrev Og:aR:=#[2,4,(.seq (.fg (.one 2) (.eZ (.lit (.tup [(.str "lower"),(.str "upper")]))) (.seq (.set 3 (.call 19 (cX aV))) (.seq (.ifs (.dS (cN .Eq (bA aA bx) (bA aL bx)) (.de (.eB (.call 15 (cY (bA aA (bN (.bin .Add) bx (aT 1))) (bA aL (bN (.bin .Add) bx (aT 1)))))))) (.seq (.ret (.lit (.bl true))) .pass) .pass) .pass))) (.seq (.ret (.lit (.bl false))) .pass))]
abbrev FF:aR:=#[2,2,(.seq (.ret (.chain .Lt .Lt (aT 0) (bA aL (aT 4)) (bA aA (aT 4)))) .pass)]
abbrev LB:aR:=#[1,1,(.seq (.ret (.comp [0] 3 (.one 2) (.eZ aA) .no (.call 90 (cX (.comp [2] 4 (.many [2,3]) (.kL aA) (.eB (.call 92 (cY bx aA))) aV))))) .pass)]
abbrev LO:aR:=#[1,1,(.seq (.ret (.comp [0] 3 (.one 2) (.eZ aA) .no (.call 90 (cX (.comp [2] 4 (.many [2,3]) (.kL aA) (.eB (.call 93 (cY bx aA))) aV))))) .pass)]
abbrev ET:aR:=#[1,1,(.seq (.ret (.comp [0] 3 (.one 2) (.eZ (.call 20 (cY aA (cv "lower")))) .no (.call 90 (cX (.call 74 (fj aA (cv "lower") aV)))))) .pass)]
abbrev Y0:aR:=#[2,8,(.seq (.set 2 (.comp [] 2 (.one 1) (.eZ aA) .no (.prim .lst .nil))) (.seq (.fg (.many [3,4,5]) (.eZ aL) (.seq (.set 6 (.call 90 (cX (.call 74 (fj aA bx dw))))) (.seq (.fg (.one 7) (.eZ (.call 74 (fj aA bx fz))) (.seq (.ifs (cN .NotIn gy (bA aV jm)) (.seq (.expr (.fu .append (bA aV jm) (cX gy))) .pass) .pass) .pass)) .pass))) (.seq (.ret aV) .pass)))]
abbrev V8:aR:=#[3,3,(.seq (.expr (.call 18 (cX aA))) (.seq (.expr (.call 42 (cX aL))) (.seq (.expr (.call 89 (cY aA aV))) .pass)))]
abbrev EB:aR:=#[3,3,(.seq (.expr (.call 98 (fj aA aL aV))) (.seq (.ret (.make "Bounds" 113 (fj aA aL aV))) .pass))]
abbrev EU:aR:=#[3,5,(.seq (.set 3 (.call 91 (cY aL aV))) (.seq (.set 4 (bN (.bin .Sub) (cB (.fld "full") aA) aL)) (.seq (.ret (cB .len (.comp [4,3] 4 (.one 3) (.eZ (cB (.fld "lower_dies") aA)) (.dS (.eB (bN (.bin .BitAnd) bx aL)) (.eB (bN (.bin .BitAnd) bx aA))) bx))) .pass)))]
abbrev EV:aR:=#[3,3,(.seq (.ifs (.eB (bN (.bin .BitAnd) aL (bA (cB (.fld "worn_by_place") aA) aV))) (.seq (.ret (cv "wear")) .pass) .pass) (.seq (.ifs (.eB (bN (.bin .BitAnd) aL (bA (cB (.fld "later_by_place") aA) aV))) (.seq (.ret (cv "year")) .pass) .pass) (.seq (.ifs (cN .Gt (.call 100 (fj aA aL aV)) (cB (.fld "room") aA)) (.seq (.ret (cv "anvil")) .pass) .pass) (.seq (.ifs (.de (.eB (cB .all (.comp [1] 3 (.one 2) (.eZ (bA (cB (.fld "needed_by_place") aA) aV)) .no (bN (.bin .BitAnd) aA aV))))) (.seq (.ret (cv "rule")) .pass) .pass) (.seq (.ret (.lit .br)) .pass)))))]
abbrev Fd:aR:=#[4,4,(.seq (.gi "size" ["Bounds"] aA (cB .len aL)) (.seq (.gi "full" ["Bounds"] aA (bN (.bin .Sub) (bN (.bin .LShift) (aT 1) (cB .len aL)) (aT 1))) (.seq (.gi "room" ["Bounds"] aA aV) (.seq (.gi "worn_by_place" ["Bounds"] aA (.call 94 (cX aL))) (.seq (.gi "later_by_place" ["Bounds"] aA (.call 95 (cX aL))) (.seq (.gi "lower_dies" ["Bounds"] aA (.call 96 (cX aL))) (.seq (.gi "needed_by_place" ["Bounds"] aA (.call 97 (cY aL bx))) .pass)))))))]
section
variable{Z:S}{c:ME}
def N8(hP:j8 P)(Sh:S->Prop)(p:Nat->Bool)(w:Nat->D){l}{k}(hk:∀g',Ex g g'->k.Is l g')(hl:l.length<=1000)(h0:Sh (Q1 Z d6 n))(hs:∀i d Z g',l[i]?=some d->Ex g g'->Sh Z->jT t d Z λcz=>dP P c cz g' (λb g3=>b=p i/\Ex g g3/\if b=true then aW P elt cz g3 (λy g4=>y=w i/\Ex g g4/\Sh cz) jt else Sh cz) jt)(hd:∀g',Ex g g'->Q (.ref g'.length) (g'++[.lst (((List.range l.length).filter p).map w)]))(hi:∀R:IK->G->Prop,R k g->gE P it Z g R E):aW P (.comp d6 n t it c elt) Z g Q E:=by
 refine M7 hP (hi _ ?_);refine#[l,λi ys Z g'=>Ex g g'/\ys=((List.range i).filter p).map w/\Sh Z,hl,λi ys Z g' q=>#[hk _ q.1,?_],#[Ex.refl _,rfl,h0],λi x ys Z g' hx q=>?_,λys Z g' q=>?_]
 ·let#[_,rfl,_]:=q;rw[ai];exact aD (cJ _ _) #[_]
 ·let#[e1,rfl,sh]:=q;refine A8 (λcz q=>u7 hP c _ _ _ _ _ _ (λb g3 q=>?_) (λ_ _ z=>z) q) (hs i x Z g' hx e1 sh);let#[rfl,e3,q]:=q;have ef:((List.range (i+1)).filter p).map w=((List.range i).filter p).map w++if p i=true then[w i] else[]:=by
   rw[iL,cA,bE];cases z:p i<;>simp only[List.filter_cons,z,List.filter_nil]<;>rfl
  cases hp:p i with
  |true =>
   rw[hp] at q ef;refine c9 hP elt _ _ _ _ _ _ (λy g4 q=>?_) (λ_ _ z=>z) q;let#[rfl,e4,sh]:=q;exact#[e4,by rw[ef];rfl,sh]
  |false =>
   simp_all
 ·let#[e1,rfl,sh]:=q;exact hd g' e1
def comp_map(hP:j8 P)(Sh:S->Prop)(w:Nat->D){l}{k}(hk:∀g',Ex g g'->k.Is l g')(hl:l.length<=1000)(h0:Sh (Q1 Z d6 n))(hs:∀i d Z g',l[i]?=some d->Ex g g'->Sh Z->jT t d Z λcz=>aW P elt cz g' (λy g4=>y=w i/\Ex g g4/\Sh cz) jt)(hd:∀g',Ex g g'->Q (.ref g'.length) (g'++[.lst ((List.range l.length).map w)]))(hi:∀R:IK->G->Prop,R k g->gE P it Z g R E):aW P (.comp d6 n t it .no elt) Z g Q E:=by
 refine N8 hP Sh (λ_=>true) w hk hl h0 (λi d Z g' hx e sh=>A8 (λcz q=>M3 #[rfl,e,?_]) (hs i d Z g' hx e sh)) (λg' e=>?_) hi
 ·exact iV q
 ·have:=hd g' e
  rwa [show(List.range l.length).filter (λ_=>true)=List.range l.length from fV.mpr λ_ _=>rfl]
def sT(hP:j8 P){l}{o}(hl:d7 g a=some l)(h:∀Q:KD,Q (.ref a) g->aW P o Z g Q E):∀R:IK->G->Prop,R (.lst a) g->gE P (.eZ o) Z g R E:=λR r=>iH hP (h _ #[a,l,rfl,hl,r])
def DY{l}{o}(hl:d7 g a=some l)(h:∀Q:KD,Q (.ref a) g->aW P o Z g Q E):∀R:IK->G->Prop,R (.pI a) g->gE P (.kL o) Z g R E:=λR r=>By (h _ #[a,l,rfl,hl,r])
def Ko(hP:j8 P){o}(hj:j<=1000)(h:∀Q:KD,Q (.int (j:Nat)) g->aW P o Z g Q E):∀R:IK->G->Prop,R (.fix (E0 0 j)) g->gE P (.fL o) Z g R E:=λR r=>xW hP (h _ #[j,rfl,by omega,by omega,by simpa using r])
end
def Nr(l:List Nat):b0 l=(l.map λ(i:Nat)=>(i:Int)).map D.int:=by simp[b0]
structure TB0(T:Nat->Option aR):Prop where
 nf:NF T
 h2:T 2=some O4
 mq:T 12=some E9
 pG:GV T
 iZ:AG T
 qy:T 15=some zB
 CZ:T 20=some xI
 pE:T 74=some X6
 RX:T 88=some EE
 RV:T 89=some Fh
 ui:T 90=some zJ
 uh:T 91=some zW
 RU:T 92=some Og
 RT:T 93=some FF
 RS:T 94=some LB
 RQ:T 95=some LO
 RP:T 96=some ET
 RO:T 97=some Y0
 Dr:T 100=some EU
 Dq:T 101=some EV
 Dp:T 113=some Fd
structure TB(T:Nat->Option aR):Prop extends TB0 T where
 wB:T 42=some N1
 CC:T 98=some V8
 RN:T 99=some EB
instance{T:Nat->Option aR}:CoeOut (TB T) (TB0 T):=#[TB.toTB0]
section
variable{T:Nat->Option aR}{d:Nat}
def az1(h1:NF T)(wB:T 42=some N1){i}(h:1<=i->i<=9->Q .br g)(hn:¬(1<=i/\i<=9)->E #["BadAnvils"] g):b7 T (k+3) 42 [.int i] g Q E:=by
 refine call_of wB rfl ?_;delta N1;show J9 (k:=k) h1 ?_;left;by_cases hi:1<=i/\i<=9
 ·rw[aE hi.1,aE hi.2];exact h hi.1 hi.2
 ·have:(decide (1<=i)&&decide (i<=9))=false:=by
   simp_all
  rw[this];left;exact hn hi
def Q7(h1:NF T)(iZ:AG T)(pE:T 74=some X6){x}(ha:g[a]?=some (.lst (cs.map a9.d)))(hz:cs.length<=1000)(h:∀g' b,Ex g g'->g.length<=b->g'[b]?=some (.lst (b0 (iG cs w x)))->Q (.ref b) g'):b7 T (k+3) 74 [.ref a,.str w.s,.int x] g Q E:=by
 refine call_of pE rfl ?_;delta X6;show K0 (k:=k+1) h1 ?_;left;have fld:∀f:Int,(f=0\/f=2)->(∀i c,cs[i]?=some c->meant cs w x i=decide (H9 f c=x))->aW (b7 T (k+2)) (.comp [3,2] 5 (.many [3,4]) (.kL (.var 0)) (.eB (.prim (.cmp .Eq) (.cons (.prim .ix (.cons (.var 4) (.cons (.var 0) .nil))) (.cons (.var 1) .nil)))) (.var 3)) [some (.ref a),some (.str w.s),some (.int x),some (.int f)] g Q E:=λf hf hm=>by
  refine N8 (a8 T _) (λZ=>∃z2 z3 z4,Z=[some (.int f),some (.int x),z2,z3,z4]) (meant cs w x) (λi=>.int (i:Nat)) (l:=my (cs.map a9.d)) (λg' e=>zj (a7 (e.at ha))) (by rw[V2];simpa using hz) #[none,none,none,rfl] (λi d Z g' hx e sh=>?_) (λg' e=>?_) (DY (a7 ha) λQ q=>w_var (d:=.ref a) rfl q)
  ·let#[z2,z3,z4,rfl]:=sh;let#[dd,hd,rfl]:=zw hx;rw[ah,aa] at hd;let#[c,hc,rfl]:=hd;refine O0 rfl ?_;show A9 (uA hf c) ?_;left;rw[hm i c hc];refine#[rfl,e,?_];refine if2 (λ_=>?_) (λ_=>?_)
   ·left;exact#[rfl,e,_,_,_,rfl]
   ·exact#[_,_,_,rfl]
  ·rw[V2,ai];exact h _ _ (e.trans (Ex.snoc _ _)) e.len b8
 cases w with
 |dR =>
  refine eM #[] ?_;show N8 (a8 T _) (λZ=>∃z1 z2,Z=[some (.int x),z1,z2]) (meant cs .dR x) (λi=>.int (i:Nat)) (l:=E0 0 cs.length) (λg' e=>L3) (by rw[O3];exact hz) #[none,none,rfl] (λi d Z g' hx e sh=>?_) (λg' e=>?_) (Ko (a8 T _) hz λQ q=>?_)
  ·let#[z2,z3,rfl]:=sh;let#[hi,rfl]:=U1 hx;rw[iA];refine j9 ?_;show#[rfl,e,?_];refine if2 (λ_=>?_) (λ_=>?_)
   ·left;exact#[rfl,e,_,_,rfl]
   ·exact#[_,_,rfl]
  ·rw[O3];exact h _ _ (e.trans (Ex.snoc _ _)) e.len b8
  ·left;rw[ai];exact q
 |lower =>
  refine ei #[] ?_;show F7 (k:=k) iZ #[] (λ_=>?_) (λz=>absurd z #[]) (λz=>absurd rfl z);exact fld 0 (.inl rfl) λi c hc=>by simp only[meant,X8 hc];rfl
 |upper =>
  refine ei #[] ?_;show F7 (k:=k) iZ #[] (λz=>absurd z #[]) (λ_=>?_) (λ_ z=>absurd rfl z);exact fld 2 (.inr rfl) λi c hc=>by simp only[meant,X8 hc];rfl
def V7(ui:T 90=some zJ)(ha:g[a]?=some (.lst (b0 l)))(hz:l.length<=1000)(hl:∀i∈l,i<=1000)(h:∀g',Ex g g'->Q (.int (qj l:Nat)) g'):b7 T (k+1) 90 [.ref a] g Q E:=by
 refine call_of ui rfl ?_;delta zJ;show comp_map (a8 T _) (λZ=>∃z0 z1,Z=[z0,z1]) (λi=>.int ((2 ^ (l.getD i 0):Nat):Int)) (l:=b0 l) (k:=.lst a) (λg' e=>n9 (a7 (e.at ha))) (by simpa[b0] using hz) #[none,none,rfl] (λi d Z g' hx e sh=>?_) (λg' e=>?_) (sT (a8 T _) (a7 ha) λQ q=>w_var (d:=.ref a) rfl q)
 ·let#[z0,z1,rfl]:=sh;rw[b0,ah,aa] at hx;let#[j,hj,rfl]:=hx;refine j9 ?_;left;have:=hl j (aJ hj);refine Gv #[by omega,by omega,by decide] ?_;refine#[?_,e,_,_,rfl];simp[List.getD,hj]
 ·refine JH (ns:=(List.range l.length).map λi=>((2 ^ (l.getD i 0):Nat):Int)) (a7 (by simpa[b0] using b8)) ?_;have:((List.range l.length).map λi=>((2 ^ (l.getD i 0):Nat):Int)).sum=(qj l:Nat):=by
   have e2:(List.range l.length).map (λi=>((2 ^ (l.getD i 0):Nat):Int))=(l.map (2 ^ ·)).map λ(n:Nat)=>(n:Int):=by
    refine kE λi=>?_;rw[ah,ah,ah];by_cases hi:i<l.length
    ·simp[List.getD,hi]
    ·rw[bq (by simpa using hi),bq ()]
     rfl
   rw[e2];unfold qj;generalize l.map (2 ^ ·)=m
   induction m with
   |nil=>rfl
   |cons x r ih=>simp[ih]
  rw[this];exact h _ (e.trans (Ex.snoc _ _))
def R7(uh:T 91=some zW){s}(hp:p<=1000)(h:Q (.int ((s |||2 ^ p:Nat):Int)) g):b7 T (k+1) 91 [.int (s:Nat),.int (p:Nat)] g Q E:=by
 refine call_of uh rfl ?_;delta zW;show Gv #[by omega,by omega,by decide] ?_;refine SN ?_;have e:(1:Int)*2 ^ ((p:Nat):Int).toNat=((2 ^ p:Nat):Int):=by simp
 rw[e,Zw];exact h
end
section
variable{T:Nat->Option aR}{d:Nat}
def OP(h:CB c):c.lm.length<=1000/\c.um.length<=1000:=#[aD h.1 ∅,aD h.2 ∅]
def aN2(hT:TB0 T){e}(hc:CB c)(h:∀g',Ex g g'->Q (.bl (mw c e)) g'):b7 T (k+3) 92 [c.d,e.d] g Q E:=by
 refine call_of hT.RU rfl ?_;refine K4 (a8 T _) (yJ (a8 T _) ?_);refine#[_,rfl,_,λi Z g'=>Ex g g'/\(∃z2 z3,Z=[some c.d,some e.d,z2,z3])/\(1<=i->(decide (c.lo=e.lo)&&!oU c.lm e.lm)=false)/\(2<=i->(decide (c.up=e.up)&&!oU c.um e.um)=false),λ_ _ _ _=>L3,#[Ex.refl _,#[none,none,rfl],λz=>absurd z (),λz=>absurd z ()],λi x Z g' hx q=>?_,λZ g' q=>?_]
 ·let#[e1,#[z2,z3,rfl],q1,q2]:=q;refine j9 ?_
  match i,hx with
  |0,hx =>
   cases hx;show F7 (k:=k) hT.iZ #[] (λ_=>?_) (λz=>absurd z #[]) (λz=>absurd rfl z);show A9 (l:=[.int c.lo,.tup (c.lm.map .int),.int c.up,.tup (c.um.map .int),.int c.yr]) rfl ?_;show A9 (l:=[.int e.lo,.tup (e.lm.map .int),.int e.up,.tup (e.um.map .int),.int e.yr]) rfl ?_;show if2 (λh1=>?_) (λh1=>?_)
   ·show A9 (l:=[.int c.lo,.tup (c.lm.map .int),.int c.up,.tup (c.um.map .int),.int c.yr]) rfl ?_;show A9 (l:=[.int e.lo,.tup (e.lm.map .int),.int e.up,.tup (e.um.map .int),.int e.yr]) rfl ?_;show Ou (k:=k+1) hT.qy (OP hc).1 λg2 e2=>?_;left;cases hw:oU c.lm e.lm with
    |false =>
     left;have:mw c e=true:=by unfold mw;rw[aE h1,hw];rfl
     rw[<- this];exact h _ (e1.trans e2)
    |true =>
     exact#[e1.trans e2,#[_,_,rfl],λ_=>by rw[aE h1];rfl,λz=>absurd z ()]
   ·exact#[e1,#[_,_,rfl],λ_=>by rw[ax h1];rfl,λz=>absurd z ()]
  |1,hx =>
   cases hx;show F7 (k:=k) hT.iZ #[] (λz=>absurd z #[]) (λ_=>?_) (λ_ z=>absurd rfl z);show A9 (l:=[.int c.lo,.tup (c.lm.map .int),.int c.up,.tup (c.um.map .int),.int c.yr]) rfl ?_;show A9 (l:=[.int e.lo,.tup (e.lm.map .int),.int e.up,.tup (e.um.map .int),.int e.yr]) rfl ?_;show if2 (λh1=>?_) (λh1=>?_)
   ·show A9 (l:=[.int c.lo,.tup (c.lm.map .int),.int c.up,.tup (c.um.map .int),.int c.yr]) rfl ?_;show A9 (l:=[.int e.lo,.tup (e.lm.map .int),.int e.up,.tup (e.um.map .int),.int e.yr]) rfl ?_;show Ou (k:=k+1) hT.qy (OP hc).2 λg2 e2=>?_;left;cases hw:oU c.um e.um with
    |false =>
     left;have:mw c e=true:=by unfold mw;rw[aE h1,hw];simp
     rw[<- this];exact h _ (e1.trans e2)
    |true =>
     exact#[e1.trans e2,#[_,_,rfl],λ_=>q1 (),λ_=>by rw[aE h1];rfl]
   ·exact#[e1,#[_,_,rfl],λ_=>q1 (),λ_=>by rw[ax h1];rfl]
  |i+2,hx=>simp at hx
 ·let#[e1,#[z2,z3,rfl],q1,q2]:=q;have:mw c e=false:=by unfold mw;rw[q1 ∅,q2 ∅];rfl
  rw[<- this];exact h _ e1
def U'(hT:TB0 T){e}(h:Q (.bl (kK c e)) g):b7 T (k+1) 93 [c.d,e.d] g Q E:=by
 refine call_of hT.RT rfl ?_;delta FF;show A9 (l:=[.int e.lo,.tup (e.lm.map .int),.int e.up,.tup (e.um.map .int),.int e.yr]) rfl ?_;show if2 (λh1=>?_) (λh1=>?_)
 ·show A9 (l:=[.int c.lo,.tup (c.lm.map .int),.int c.up,.tup (c.um.map .int),.int c.yr]) rfl ?_;left;have:kK c e=decide (e.yr<c.yr):=by unfold kK;rw[aE h1];rfl
  rw[<- this];exact h
 ·have:kK c e=false:=by unfold kK;rw[ax h1];rfl
  rw[<- this];exact h
abbrev tP(cs:List a9)(q:a9->a9->Bool):List D:=(List.range cs.length).map λi=>.int ((iE cs.length λj=>q (fk cs j) (fk cs i):Nat):Int)
def xE{q}:∀i∈(List.range cs.length).filter q,i<cs.length:=λi hi=>bj.mp (aS.mp hi).1
def xQ{q}:((List.range n).filter q).length<=n:=aD (cJ _ _) #[_]
def Uu(hT:TB0 T)(ha:g[a]?=some (.lst (cs.map a9.d)))(hz:cs.length<=9)(hB:∀c∈cs,CB c)(h:∀g' b,Ex g g'->g.length<=b->g'[b]?=some (.lst (tP cs mw))->Q (.ref b) g'):b7 T (k+4) 94 [.ref a] g Q E:=by
 refine call_of hT.RS rfl ?_;refine comp_map (a8 T _) (λZ=>∃z1 z2,Z=[some (.ref a),z1,z2]) (λi=>.int ((iE cs.length λj=>mw (fk cs j) (fk cs i):Nat):Int)) (l:=cs.map a9.d) (k:=.lst a) (λg' e=>n9 (a7 (e.at ha))) (by simp;omega) #[none,none,rfl] (λi d Z g' hx e sh=>?_) (λg' e=>?_) (sT (a8 T _) (a7 ha) λQ q=>w_var (d:=.ref a) rfl q)
 ·let#[z1,z2,rfl]:=sh;rw[ah,aa] at hx;let#[c,hc,rfl]:=hx;refine j9 ?_;show N8 (a8 T _) (λZ=>∃z1 z2 z3,Z=[some c.d,z1,z2,z3]) (λj=>mw (fk cs j) (fk cs i)) (λi=>.int (i:Nat)) (l:=my (cs.map a9.d)) (k:=.pI a) (λg2 e2=>zj (a7 ((e.trans e2).at ha))) (by rw[V2];simp;omega) #[none,none,none,rfl] (λj d Z g2 hx e2 sh=>?_) (λg2 e2=>?_) (DY (a7 (e.at ha)) λQ q=>w_var (d:=.ref a) rfl q)
  ·let#[z1,z2,z3,rfl]:=sh;let#[dd,hd,rfl]:=zw hx;rw[ah,aa] at hd;let#[c',mn,rfl]:=hd;refine O0 rfl ?_;show aN2 (k:=k) hT (hB c' (aJ mn)) λg3 e3=>?_;show#[by simp only[X8 mn,X8 hc],e2.trans e3,?_];cases mw c' c with
   |true =>
    refine eM rfl ?_;left;exact#[rfl,e2.trans e3,_,_,_,rfl]
   |false=>exact ei rfl #[_,_,_,rfl]
  ·show V7 (k:=k+2) hT.ui (l:=(List.range cs.length).filter λj=>mw (fk cs j) (fk cs i)) (by have:=b8 (g:=g2) (o:=.lst (((List.range (my (cs.map a9.d)).length).filter λj=>mw (fk cs j) (fk cs i)).map λi=>D.int (i:Nat)));rw[V2,ai] at this ⊢;exact this) (aD xQ ()) (λj hj=>by have:=xE j hj;omega) λg3 e3=>?_;exact#[rfl,(e.trans (e2.trans (Ex.snoc _ _))).trans e3,_,_,rfl]
 ·refine h _ _ (e.trans (Ex.snoc _ _)) e.len ?_;rw[b8,ai]
  rfl
def WY(hT:TB0 T)(ha:g[a]?=some (.lst (cs.map a9.d)))(hz:cs.length<=9)(h:∀g' b,Ex g g'->g.length<=b->g'[b]?=some (.lst (tP cs kK))->Q (.ref b) g'):b7 T (k+4) 95 [.ref a] g Q E:=by
 refine call_of hT.RQ rfl ?_;refine comp_map (a8 T _) (λZ=>∃z1 z2,Z=[some (.ref a),z1,z2]) (λi=>.int ((iE cs.length λj=>kK (fk cs j) (fk cs i):Nat):Int)) (l:=cs.map a9.d) (k:=.lst a) (λg' e=>n9 (a7 (e.at ha))) (by simp;omega) #[none,none,rfl] (λi d Z g' hx e sh=>?_) (λg' e=>?_) (sT (a8 T _) (a7 ha) λQ q=>w_var (d:=.ref a) rfl q)
 ·let#[z1,z2,rfl]:=sh;rw[ah,aa] at hx;let#[c,hc,rfl]:=hx;refine j9 ?_;show N8 (a8 T _) (λZ=>∃z1 z2 z3,Z=[some c.d,z1,z2,z3]) (λj=>kK (fk cs j) (fk cs i)) (λi=>.int (i:Nat)) (l:=my (cs.map a9.d)) (k:=.pI a) (λg2 e2=>zj (a7 ((e.trans e2).at ha))) (by rw[V2];simp;omega) #[none,none,none,rfl] (λj d Z g2 hx e2 sh=>?_) (λg2 e2=>?_) (DY (a7 (e.at ha)) λQ q=>w_var (d:=.ref a) rfl q)
  ·let#[z1,z2,z3,rfl]:=sh;let#[dd,hd,rfl]:=zw hx;rw[ah,aa] at hd;let#[c',mn,rfl]:=hd;refine O0 rfl ?_;show U' (k:=k+2) hT ?_;show#[by simp only[X8 mn,X8 hc],e2,?_];cases kK c' c with
   |true =>
    refine eM rfl ?_;left;exact#[rfl,e2,_,_,_,rfl]
   |false=>exact ei rfl #[_,_,_,rfl]
  ·show V7 (k:=k+2) hT.ui (l:=(List.range cs.length).filter λj=>kK (fk cs j) (fk cs i)) (by have:=b8 (g:=g2) (o:=.lst (((List.range (my (cs.map a9.d)).length).filter λj=>kK (fk cs j) (fk cs i)).map λi=>D.int (i:Nat)));rw[V2,ai] at this ⊢;exact this) (aD xQ ()) (λj hj=>by have:=xE j hj;omega) λg3 e3=>?_;exact#[rfl,(e.trans (e2.trans (Ex.snoc _ _))).trans e3,_,_,rfl]
 ·refine h _ _ (e.trans (Ex.snoc _ _)) e.len ?_;rw[b8,ai]
  rfl
def UJ(hT:TB0 T)(ha:g[a]?=some (.lst (cs.map a9.d)))(hz:cs.length<=9)(hg:cs.all j5=true)(h:Q (.ref g.length) (g++[.lst ((m5 (cs.map a9.lo)).map .int)])):b7 T (k+7) 20 [.ref a,.str "lower"] g Q E:=by
 refine call_of hT.CZ rfl ?_;delta xI;show V5 (k:=k) hT.nf hT.h2 hT.mq hT.pG ha () (λz=>by omega) (λ_ z=>by rw[hg] at z;cases z) λ_ _=>?_;show F7 (k:=k+4) hT.iZ #[] (λ_=>?_) (λz=>absurd z #[]) (λz=>absurd rfl z);show MZ (a8 T _) (iH (a8 T _) ?_);show#[a,_,rfl,a7 ha,cs.map a9.d,λi ys Z g'=>∃z w,ys=(cs.take i).map a9.lo/\Z=[some (.int 0),z,w]/\g'=g,by simp;omega,λi ys Z g' p=>?_,#[none,none,rfl,rfl,rfl],λi c ys Z g' hx p=>?_,λys Z g' p=>?_]
 ·let#[z,w,rfl,rfl,rfl]:=p;exact#[n9 (a7 ha),by simp;omega]
 ·let#[z,w,rfl,rfl,rfl]:=p;rw[ah,aa] at hx;let#[c,hc,rfl]:=hx;show A9 (l:=[.int c.lo,.tup (c.lm.map .int),.int c.up,.tup (c.um.map .int),.int c.yr]) rfl ?_;refine#[_,rfl,_,_,?_,rfl,rfl];rw[bh,hc];simp
 ·let#[z,w,rfl,rfl,rfl]:=p;rw[ai,bu];exact h
abbrev oy(cs:List a9):List D:=(m5 (cs.map a9.lo)).map λd=>.int ((iE cs.length (meant cs .lower d):Nat):Int)
def aG9(hT:TB0 T)(ha:g[a]?=some (.lst (cs.map a9.d)))(hz:cs.length<=9)(hg:cs.all j5=true)(h:∀g' b,Ex g g'->g.length<=b->g'[b]?=some (.lst (oy cs))->Q (.ref b) g'):b7 T (k+8) 96 [.ref a] g Q E:=by
 refine call_of hT.RP rfl ?_;delta ET;left;have vY:(m5 (cs.map a9.lo)).length<=9:=aD (Q6 _) (by simpa using hz);unfold oy at h;refine M7 (a8 T _) (iH (a8 T _) ?_);show UJ (k:=k) hT ha hz hg ?_;have e0:=Ex.snoc g (O.lst ((m5 (cs.map a9.lo)).map .int));have hb:=b8 (g:=g) (o:=O.lst ((m5 (cs.map a9.lo)).map .int));generalize m5 (cs.map a9.lo)=ds at *;generalize g++[O.lst (ds.map .int)]=g1 at *;refine#[_,_,rfl,a7 hb,ds.map .int,λi ys Z g'=>Ex g1 g'/\ys=(ds.take i).map (λd=>.int ((iE cs.length (meant cs .lower d):Nat):Int))/\∃z1 z2,Z=[some (.ref a),z1,z2],by simp;omega,λi ys Z g' q=>#[n9 (a7 (q.1.at hb)),?_],#[Ex.refl _,rfl,none,none,rfl],λi x ys Z g' hx q=>?_,λys Z g' q=>?_]
 ·let#[_,rfl,_]:=q;simp;omega
 ·let#[e1,rfl,z1,z2,rfl]:=q;rw[ah,aa] at hx;let#[dd,hd,rfl]:=hx;refine j9 ?_;show Q7 (k:=k+4) hT.nf hT.iZ hT.pE (w:=.lower) ((e0.trans e1).at ha) () λg2 b2 e2 _ wx=>?_;show V7 (k:=k+6) hT.ui wx (aD xQ ()) (λj hj=>by have:=xE j hj;omega) λg3 e3=>?_;refine#[e1.trans (e2.trans e3),?_,_,_,rfl];rw[bh,hd];simp[iE,iG]
 ·let#[e1,rfl,z1,z2,rfl]:=q;rw[ai,bu];exact h _ _ (e0.trans (e1.trans (Ex.snoc _ _))) (aD e0.len e1.len) b8
end
def Oa{i}{k}(ha:d7 g a=some (ms.map .int))(h:k (ms.any λm=>m==i)):nQ g (.int i) (.ref a) k:=by
 refine#[_,.inr #[_,_,_,ha,R0 ms,rfl,lay_ints ms,by rfl,rfl],?_];rw[vg];exact h
def bD3{k}(ha:g[a]?=some (.lst (b0 l)))(h:k (decide (i∈l))):nQ g (.int (i:Nat)) (.ref a) k:=by
 refine Oa (ms:=l.map λ(i:Nat)=>(i:Int)) (by rw[<- Nr];exact a7 ha) ?_;have:((l.map λ(i:Nat)=>(i:Int)).any λm=>m==(i:Int))=decide (i∈l):=by
  rw[bf,bw,dg];constructor
  ·rintro⟨x,hx,e⟩;let#[j,hj,rfl]:=ao.mp hx;rw[eX] at e;rw[show i=j by omega];exact hj
  ·exact λhi=>#[_,ao.mpr #[i,hi,rfl],by simp]
 rw[this];exact h
structure nF(g:G)(nb lo n:Nat)(B:Nat->Nat)(F:Nat->Nat->Prop):Prop where
 ex:∃as:List Nat,g[nb]?=some (.lst (as.map .ref))/\as.length=n/\as.Nodup/\(∀a∈as,lo<=a/\a≠nb)/\∀i a,as[i]?=some a->∃ms:List Nat,g[a]?=some (.lst (b0 ms))/\ms.length<=B i/\∀m,m∈ms↔F i m
def nF.at{g g'}{nb lo n}{B}{F}(h:nF g nb lo n B F)(e:Ex g g'):nF g' nb lo n B F:=by
 let#[as,h1,h2,h3,h4,h5]:=h.ex;refine#[#[as,e.at h1,h2,h3,h4,λi a hi=>?_]];let#[ms,m1,m2]:=h5 i a hi;exact#[ms,e.at m1,m2]
def nF.imp{nb lo}{B B'}{F F'}(h:nF g nb lo n B F)(hB:∀i,i<n->B i<=B' i)(hF:∀i m,i<n->(F i m↔F' i m)):nF g nb lo n B' F' :=
 let ⟨as,h1,h2,h3,h4,h5⟩:=h.ex
 #[#[as,h1,h2,h3,h4,λi a hi=>let ⟨ms,m1,m2,m3⟩:=h5 i a hi
  have iY:i<n:=by rw[<- h2];exact(aw.mp hi).1
  #[ms,m1,aD m2 (hB i iY),λm=>(m3 m).trans (hF i m iY)]]]
abbrev uy(cs:List a9)(rs:List gD)(i m:Nat):Prop:=∃r∈rs,meant cs r.w r.y i=true/\m=iE cs.length (meant cs r.w r.x)
abbrev Q2(rs:List gD):List D:=rs.map gD.d
def zX{l:List α}(h:l.Nodup){a:α}(hi:l[i]?=some a)(hj:l[j]?=some a):i=j:=by
 let#[h1,e1]:=aw.mp hi;let#[h2,e2]:=aw.mp hj;exact(lK h).mp (e1.trans e2.symm)
section
variable{T:Nat->Option aR}{d:Nat}{c:Nat}
def Xg(hT:TB0 T)(ha:g[a]?=some (.lst (cs.map a9.d)))(hz:cs.length<=9)(hc:g[c]?=some (.lst (Q2 rs)))(hr:rs.length<=900)(h:∀g' b,Ex g g'->g.length<=b->nF g' b g.length cs.length (λ_=>rs.length) (uy cs rs)->Q (.ref b) g'):b7 T (k+4) 97 [.ref a,.ref c] g Q E:=by
 refine call_of hT.RO rfl ?_;delta Y0;show M7 (a8 T _) (iH (a8 T _) ?_);show#[a,_,rfl,a7 ha,cs.map a9.d,λi ys Z g'=>Ex g g'/\(∃as:List Nat,ys=as.map .ref/\as.length=i/\as.Nodup/\∀b∈as,g.length<=b/\g'[b]?=some (.lst []))/\∃z0 z1,Z=[z0,z1],by simp;omega,λi ys Z g' q=>#[n9 (a7 (q.1.at ha)),?_],#[Ex.refl _,#[[],rfl,rfl,by simp,by simp],none,none,rfl],λi x ys Z g' hx q=>?_,λys Z g' q=>?_]
 ·let#[_,#[as,rfl,rfl,_],_]:=q;simp
 ·let#[e1,#[as,rfl,hl,nd,hA],z0,z1,rfl]:=q;refine j9 ?_;show#[e1.trans (Ex.snoc _ _),#[as++[g'.length],by simp,by simp[hl],?_,λb hb=>?_],_,_,rfl]
  ·rw[dn];exact#[nd,by simp,λx hx y hy=>by cases ba.mp hy;exact aN (i8 (hA x hx).2)]
  ·rcases bD.mp hb with hb|hb
   ·exact#[(hA b hb).1,(Ex.snoc _ _).at (hA b hb).2]
   ·cases ba.mp hb;exact#[e1.len,b8]
 ·let#[e1,#[as,rfl,hl,nd,hA],z0,z1,rfl]:=q;rw[ai] at hl;have e2:=e1.trans (Ex.snoc g' (O.lst (as.map D.ref)));have lo:=e1.len;have N0:nF (g'++[O.lst (as.map D.ref)]) g'.length g.length cs.length (λ_=>0) (uy cs []):=#[#[as,b8,hl,nd,λb hb=>#[(hA b hb).1,aN (i8 (hA b hb).2)],λi b hb=>#[[],(Ex.snoc _ _).at (hA b (aJ hb)).2,by simp,λm=>#[λz=>absurd z #[_],(by rintro ⟨r,hr,_⟩;exact absurd hr #[_])]]]]
  generalize g'.length=nb at *;refine K4 (a8 T _) (iH (a8 T _) ?_);show#[c,_,rfl,a7 (e2.at hc),Q2 rs,λi Z g'=>Ex g g'/\nF g' nb g.length cs.length (λ_=>i) (uy cs (rs.take i))/\∃z3 z4 z5 z6 z7,Z=[some (.ref a),some (.ref c),some (.ref nb),z3,z4,z5,z6,z7],λi Z g' q=>n9 (a7 (q.1.at hc)),#[e2,N0,none,none,none,none,none,rfl],λi x Z g' hx q=>?_,λZ g' q=>?_]
  ·let#[e3,N3,z3,z4,z5,z6,z7,rfl]:=q;rw[Q2,ah,aa] at hx;let#[r,nT,rfl]:=hx;have hi:i<rs.length:=(aw.mp nT).1;refine O0 (l:=[.str r.w.s,.int r.x,.int r.y]) rfl ?_;show Q7 (k:=k) hT.nf hT.iZ hT.pE (e3.at ha) () λg4 b4 e4 _ RB=>?_;show V7 (k:=k+2) hT.ui RB (aD xQ ()) (λj hj=>by have:=xE j hj;omega) λg5 e5=>?_;left;have IP:=e3.trans (e4.trans e5);have N5:=N3.at (e4.trans e5);have ef:qj (iG cs r.w r.x)=iE cs.length (meant cs r.w r.x):=rfl;rw[ef];generalize iE cs.length (meant cs r.w r.x)=first at *
   refine K4 (a8 T _) (iH (a8 T _) ?_);show Q7 (k:=k) hT.nf hT.iZ hT.pE (IP.at ha) () λg6 b6 e6 hb6 HV=>?_;refine#[b6,_,rfl,a7 HV,b0 (iG cs r.w r.y),λj Z g'=>Ex g g'/\g'[b6]?=some (.lst (b0 (iG cs r.w r.y)))/\nF g' nb g.length cs.length (λq=>i+if q∈(iG cs r.w r.y).take j then 1 else 0) (λq m=>uy cs (rs.take i) q m\/(q∈(iG cs r.w r.y).take j/\m=first))/\(∀as:List Nat,g'[nb]?=some (.lst (as.map .ref))->b6∉as)/\∃z7,Z=[some (.ref a),some (.ref c),some (.ref nb),some (.str r.w.s),some (.int r.x),some (.int r.y),some (.int (first:Nat)),z7],λj Z g' q=>n9 (a7 q.2.1),#[IP.trans e6,HV,(N5.at e6).imp (λq _=>by simp) (λq m _=>by simp),?_,z7,rfl],λj x Z g' hx q=>?_,λZ g' q=>?_]
   ·intro zq h' hm;let#[Lx,h1,h2,h3,h4,h5]:=N5.ex;have:=(e6.at h1).symm.trans h';have e':Lx=zq:=by
     have h0:Lx.map D.ref=zq.map D.ref:=by injection this with w;injection w
     exact(Pe (λx y z=>by injection z)).mp h0
    subst e';let#[i',iY]:=cI.mp hm;let#[ms,m1,_]:=h5 i' b6 iY;have:=i8 m1;omega
   ·let#[e7,p7,N7,yF,z7,rfl]:=q;rw[b0,ah,aa] at hx;let#[q,hq,rfl]:=hx;have hqn:q<cs.length:=xE q (aJ hq);have QR:q∉(iG cs r.w r.y).take j:=λz=>by
     let#[j',BW]:=cI.mp z;have hl:j'<j:=by
      have:=(aw.mp BW).1;simp at this;omega
     rw[eQ hl] at BW;have Ql:(iG cs r.w r.y).Nodup:=lH.filter _;have:=zX Ql BW hq;omega
    have tk:(iG cs r.w r.y).take (j+1)=(iG cs r.w r.y).take j++[q]:=by rw[bh,hq];rfl
    let#[xq,h1,h2,h3,h4,h5]:=N7.ex;have QN:q<xq.length:=by omega
    have ue:=au QN;generalize xq[q]=aq at ue;let#[ms,m1,m2,m3]:=h5 q aq ue;have gq:jc (xq.map D.ref) (q:Int)=some (.ref aq):=O9 (by rw[ah,ue];rfl);refine j9 ?_;show E5 (a7 h1) gq ?_;refine J6 (bD3 m1 ?_);left;by_cases mV:first∈ms
    ·refine ei (by simp[mV]) ?_;refine#[e7,p7,N7.imp (λq' _=>?_) (λq' m _=>?_),yF,_,rfl]
     ·rw[tk];by_cases z:q'∈(iG cs r.w r.y).take j
      ·simp[z]
      ·simp[z]
     ·rw[tk];simp only[List.mem_append,List.mem_singleton];constructor
      ·rintro(z|⟨z1,z2⟩)
       ·exact .inl z
       ·exact .inr #[.inl z1,z2]
      ·rintro(z|⟨z1|z1,z2⟩)
       ·exact .inl z
       ·exact .inr #[z1,z2]
       ·subst z1 z2;exact(m3 m).mp mV
    ·refine eM (by simp[mV]) ?_;show E5 (a7 h1) gq ?_;left;rw[az QR] at m2;refine Jw m1 (by simp[b0];omega) ?_;have mU:=aJ ue;have fM:=(h4 aq mU).2;have QV:aq≠b6:=λz=>yF xq h1 (z▸mU);have IG:=c7 (o':=O.lst (b0 ms++[D.int (first:Nat)])) h1 fM;refine#[#[by simp;exact e7.len,λi' iY=>by rw[aI (by have:=(h4 aq mU).1;omega)];exact e7.old i' iY],c7 p7 QV,#[#[xq,IG,h2,h3,h4,λi' b hb=>?_]],λzq h'=>?_,_,rfl]
     ·by_cases yS:i'=q
      ·subst yS;have:b=aq:=by rw[ue] at hb;injection hb with z;exact z.symm
       subst this;refine#[ms++[first],by rw[get_set m1];simp[b0],?_,λm=>?_]
       ·rw[tk];simp;omega
       ·rw[bD,ba,m3 m,tk];simp only[List.mem_append,List.mem_singleton];constructor
        ·rintro((z|⟨z1,z2⟩)|z)
         ·exact .inl z
         ·exact .inr #[.inl z1,z2]
         ·exact .inr #[.inr trivial,z]
        ·rintro(z|⟨z1|z1,z2⟩)
         ·exact .inl (.inl z)
         ·exact .inl (.inr #[z1,z2])
         ·exact .inr z2
      ·have Ci:aq≠b:=λz=>yS (zX h3 hb (z▸ue));let#[HI,k1,k2,k3]:=h5 i' b hb;refine#[HI,c7 k1 Ci,?_,λm=>(k3 m).trans ?_]
       ·rw[tk];simpa[yS] using k2
       ·rw[tk];simp[yS]
     ·rw[IG] at h';exact yF zq (h1.trans h')
   ·let#[e7,p7,N7,yF,z7,rfl]:=q;rw[b0,ai,bu] at N7;refine#[e7,N7.imp (λq _=>by split<;>omega) (λq m hq=>?_),_,_,_,_,_,rfl];have tk:rs.take (i+1)=rs.take i++[r]:=by rw[bh,nT];rfl
    unfold uy;rw[tk];simp only[List.mem_append,List.mem_singleton];constructor
    ·rintro(⟨r',h1,h2⟩|⟨h1,h2⟩)
     ·exact#[r',.inl h1,h2]
     ·exact#[r,.inr rfl,(aS.mp h1).2,by rw[h2];exact ef.symm]
    ·rintro⟨r',h1|h1,h2,h3⟩
     ·exact .inl #[r',h1,h2,h3]
     ·subst h1;exact .inr #[aS.mpr #[bj.mpr hq,h2],by rw[h3];exact ef]
  ·let#[e3,N3,z3,z4,z5,z6,z7,rfl]:=q;rw[Q2,ai,bu] at N3;left;exact h _ _ e3 lo N3
end
abbrev E6(cs:List a9)(r:gD):Bool:=!decide (r.x=r.y)&&(!(iG cs r.w r.x).isEmpty&&!(iG cs r.w r.y).isEmpty)
def in_words(h:kb true):nQ g (.str w.s) (.tup [.str "coin",.str "lower",.str "upper"]) kb:=by
 refine#[_,.inr #[_,[.str "coin",.str "lower",.str "upper"],.str w.s,rfl,rfl,rfl,by decide +kernel,by cases w<;>decide +kernel,rfl],?_];have:([PyData.str "coin",PyData.str "lower",PyData.str "upper"].any λq=>PyData.eqv q (.str w.s))=true:=by
  cases w<;>decide +kernel
 rw[this];exact h
def ne_nil(ha:g[a]?=some (.lst (b0 l)))(hb:g[b]?=some (.lst []))(h:Q (.bl (!l.isEmpty)) g):cL (.cmp .NotEq) [.ref a,.ref b] g Q:=by
 refine DW (NU (ms:=l.map λ(i:Nat)=>(i:Int)) (ns:=[]) (by rw[<- Nr];exact a7 ha) (a7 hb) ?_);have:decide ((l.map λ(i:Nat)=>(i:Int))=[])=l.isEmpty:=by cases l<;>simp
 rw[this];exact h
structure Bd(g:G)(b:Nat)(cs:List a9)(v:Int)(rs:List gD):Prop where
 ex:∃w l d nb,g[b]?=some (.ins "Bounds" [("size",.int cs.length),("full",.int ((2 ^ cs.length-1:Nat):Int)),("room",.int v),("worn_by_place",.ref w),("later_by_place",.ref l),("lower_dies",.ref d),("needed_by_place",.ref nb)]) /\
  g[w]?=some (.lst (tP cs mw))/\g[l]?=some (.lst (tP cs kK))/\g[d]?=some (.lst (oy cs))/\nF g nb 0 cs.length (λ_=>rs.length) (uy cs rs)
def Bd.at{g g'}{b}{cs}{v}{rs}(h:Bd g b cs v rs)(e:Ex g g'):Bd g' b cs v rs:=by
 let#[w,l,d,nb,h1,h2,h3,h4,h5]:=h.ex;exact#[#[w,l,d,nb,e.at h1,e.at h2,e.at h3,e.at h4,h5.at e]]
def a37(l:List α)(z:α)(q:α->Bool):((List.range l.length).filter λi=>q (l.getD i z)).length=(l.filter q).length:=by
 have e:l=(List.range l.length).map λi=>l.getD i z:=by
  refine kE λi=>?_;rw[ah];by_cases hi:i<l.length
  ·rw[eG hi,au hi];simp[List.getD,hi]
  ·rw[bq (),bq (by simpa using hi)]
   rfl
 conv=>rhs;rw[e,eV,ai]
 rfl
def Na{q:Nat->Bool}{s:Nat}{S:Nat->Bool}(h:∀i,i<n->s.testBit i=S i):((Builtin.bitAnd ((iE n q:Nat):Int) (s:Nat)) != 0)=(List.range n).any λi=>S i&&q i:=by
 rw[Gd,Nat.and_comm,zt,bf,bw,bw];constructor
 ·rintro⟨i,h1,h2⟩;exact#[i,h1,by rw[<- h i (bj.mp h1)];exact h2]
 ·rintro⟨i,h1,h2⟩;exact#[i,h1,by rw[h i (bj.mp h1)];exact h2]
def Vc{s}(h:s<2 ^ n)(hi:i<n):(2 ^ n-1-s).testBit i=!s.testBit i:=by
 grind
def zP(s p i:Nat):(s |||2 ^ p).testBit i=(s.testBit i||decide (i=p)):=by
 rw[Nat.testBit_or,Nat.testBit_two_pow]
 congr 1
 exact fF.mpr eq_comm
def xP{s}(h:s<2 ^ n)(hp:p<n):s |||2 ^ p<2 ^ n:=Nat.or_lt_two_pow h (Nat.pow_lt_pow_right () hp)
section
variable{T:Nat->Option aR}{d:Nat}{c:Nat}
def aO6(hT:TB0 T){r}(ha:g[a]?=some (.lst (cs.map a9.d)))(hz:cs.length<=1000)(h:∀g',Ex g g'->Q (.bl (E6 cs r)) g'):b7 T (k+4) 88 [.ref a,r.d] g Q E:=by
 refine call_of hT.RX rfl ?_;delta EE;show O0 (l:=[.str r.w.s,.int r.x,.int r.y]) rfl ?_;show J6 (in_words ?_);show if2 (λh1=>?_) (λh1=>?_)
 ·have:E6 cs r=false:=by unfold E6;rw[aE h1];rfl
  rw[<- this];exact h _ (Ex.refl _)
 ·show Q7 (k:=k) hT.nf hT.iZ hT.pE ha hz λg1 b1 e1 _ wy=>?_;show ne_nil ((Ex.snoc _ _).at wy) b8 ?_;left;cases h2:(iG cs r.w r.x).isEmpty with
  |true =>
   refine ei rfl ?_;have:E6 cs r=false:=by unfold E6;rw[ax h1,h2];rfl
   rw[<- this];exact h _ (e1.trans (Ex.snoc _ _))
  |false =>
   refine eM rfl ?_;show Q7 (k:=k) hT.nf hT.iZ hT.pE ((e1.trans (Ex.snoc _ _)).at ha) hz λg2 b2 e2 _ wx=>?_;show ne_nil ((Ex.snoc _ _).at wx) b8 ?_;have:E6 cs r=!(iG cs r.w r.y).isEmpty:=by unfold E6;rw[ax h1,h2];rfl
   rw[<- this];exact h _ ((e1.trans (Ex.snoc _ _)).trans (e2.trans (Ex.snoc _ _)))
def aC0(hT:TB0 T)(ha:g[a]?=some (.lst (cs.map a9.d)))(hz:cs.length<=1000)(hc:g[c]?=some (.lst (Q2 rs)))(hr:rs.length<=900)(h:rs.all (E6 cs)=true->∀g',Ex g g'->Q .br g')(hn:rs.all (E6 cs)=false->∀g',Ex g g'->False):b7 T (k+5) 89 [.ref a,.ref c] g Q E:=by
 refine call_of hT.RV rfl ?_;delta Fh;show K4 (a8 T _) (By ?_);show#[c,_,rfl,a7 hc,my (Q2 rs),λi Z g'=>Ex g g'/\(∃z2 z3,Z=[some (.ref a),some (.ref c),z2,z3])/\(rs.take i).all (E6 cs)=true,λi Z g' q=>zj (a7 (q.1.at hc)),#[Ex.refl _,#[none,none,rfl],rfl],λi x Z g' hx q=>?_,λZ g' q=>?_]
 ·let#[e1,#[z2,z3,rfl],q]:=q;let#[dd,hd,rfl]:=zw hx;rw[Q2,ah,aa] at hd;let#[r,nT,rfl]:=hd;have tk:rs.take (i+1)=rs.take i++[r]:=by rw[bh,nT];rfl
  refine O0 rfl ?_
  try show wpS _ _ _ _ _ _
  show aO6 (k:=k) hT (e1.at ha) hz λg2 e2=>?_;left;cases hg:E6 cs r with
  |true =>
   left;exact#[e1.trans e2,#[_,_,rfl],by rw[tk,List.all_append,q];simp[hg]]
  |false =>
   show hn ?_ _ (e1.trans e2);rw[List.all_eq_false];exact#[r,aJ nT,by rw[hg];decide]
 ·let#[e1,#[z2,z3,rfl],q]:=q;rw[V2,Q2,ai,bu] at q;exact h q _ e1
def aC1(hT:TB0 T)(wB:T 42=some N1)(CC:T 98=some V8)(ha:g[a]?=some (.lst (cs.map a9.d)))(hz:cs.length<=1000)(hc:g[c]?=some (.lst (Q2 rs)))(hr:rs.length<=900)(hm:9<cs.length->E #["TooMany"] g)(hb:cs.length<=9->cs.all j5=false->E #["BadCoin"] g)(hv:cs.length<=9->cs.all j5=true->¬(1<=v/\v<=9)->E #["BadAnvils"] g)(hw:cs.length<=9->cs.all j5=true->1<=v/\v<=9->rs.all (E6 cs)=false->∀g',Ex g g'->False)(h:cs.length<=9->cs.all j5=true->1<=v/\v<=9->rs.all (E6 cs)=true->∀g',Ex g g'->Q .br g'):b7 T (k+7) 98 [.ref a,.int v,.ref c] g Q E:=by
 refine call_of CC rfl ?_;delta V8;show V5 (k:=k) hT.nf hT.h2 hT.mq hT.pG ha hz hm hb λh9 hg=>?_;show az1 (k:=k+3) hT.nf wB (λv1 v2=>?_) (hv h9 hg);left;exact aC0 (k:=k+1) hT ha hz hc hr (h h9 hg #[v1,v2]) (hw h9 hg #[v1,v2])
def ML{f}{x}(fs:List (Str×D)):(m7 f x fs).length<=fs.length+1:=by
 induction fs with
 |nil=>simp[m7]
 |cons y r ih =>
  unfold m7;split<;>simp
  exact ih
def xM{f}{x}{fs}(h:fs.length+1<n):(m7 f x fs).length<n:=gw (ML fs) h
def xN{f}{x}{fs}(h:fs.length+(m+1)<n):(m7 f x fs).length+m<n:=by
 have:=ML (f:=f) (x:=x) fs;omega
abbrev f3(n:Nat)(v:Int):List (Str×D):=[("size",.int n),("full",.int ((2 ^ n-1:Nat):Int)),("room",.int v)]
def uC(n:Nat)(v:Int):(f3 n v).length=3:=rfl
def aC6(hT:TB0 T)(ha:g[a]?=some (.lst (cs.map a9.d)))(hz:cs.length<=9)(hg:cs.all j5=true)(hB:∀c∈cs,CB c)(hc:g[c]?=some (.lst (Q2 rs)))(hr:rs.length<=900)(hb:g[b]?=some (.ins "Bounds" []))(h:∀g',g.length<=g'.length->(∀i,i<g.length->i≠b->g'[i]?=g[i]?)->Bd g' b cs v rs->Q .br g'):b7 T (k+9) 113 [.ref b,.ref a,.int v,.ref c] g Q E:=by
 refine call_of hT.Dp rfl ?_;delta Fd;have vI:b≠a:=λz=>by subst z;rw[ha] at hb;cases hb
 have yE:b≠c:=λz=>by subst z;rw[hc] at hb;cases hb
 show P8 hb #[_] #[_] ?_;left;have yW:=c7 (o':=O.ins "Bounds" (m7 "size" (.int (cs.map a9.d).length) [])) ha vI;refine xi (a7 yW) ?_;refine Gv #[by omega,by simp;omega,by decide] ?_;show P8 (get_set hb) #[_] (by first|(simp;done)|(refine xM ?_;repeat (first|(rw[uC];omega)|(simp;done)|refine xN ?_))) ?_;rw[gh];show P8 (get_set hb) #[_] (by first|(simp;done)|(refine xM ?_;repeat (first|(rw[uC];omega)|(simp;done)|refine xN ?_))) ?_;rw[gh];have e0:m7 "room" (.int v) (m7 "full" (.int (1*2 ^ Int.toNat ((cs.map a9.d).length:Int)-1)) (m7 "size" (.int (cs.map a9.d).length) []))=(f3 cs.length v):=by
  have:(1*2 ^ Int.toNat ((cs.map a9.d).length:Int)-1:Int)=((2 ^ cs.length-1:Nat):Int):=by
   have:=gp (n:=cs.length);rw[Int.natCast_sub this];simp
  rw[this,ai]
  rfl
 simp only[e0];have kp:∀(g1:G) (o:O),Ex (g.set b o) g1->(∀i,i<g.length->i≠b->g1[i]?=g[i]?)/\g.length<=g1.length:=λg1 o e=>#[λi hi hn=>by rw[e.old i (by simpa using hi),aI (aZ hn)],by have:=e.len;simpa using this]
 generalize ho:O.ins "Bounds" (f3 cs.length v)=o1;have wy:=get_set (o':=o1) hb;have yW:=c7 (o':=o1) ha vI;have yU:=c7 (o':=o1) hc yE;have k1:=kp _ o1 (Ex.refl _);generalize g.set b o1=g1 at *;subst ho;show Uu (k:=k+4) hT yW hz hB λg2 w e2 hw1 hw=>?_;show P8 (e2.at wy) #[_] (by rw[uC];omega) ?_;have lw:w≠b:=λz=>by have:=i8 wy;omega
 have Cm:=get_set (o':=O.ins "Bounds" (m7 "worn_by_place" (.ref w) (f3 cs.length v))) (e2.at wy);have QK:=c7 (o':=O.ins "Bounds" (m7 "worn_by_place" (.ref w) (f3 cs.length v))) hw lw.symm;have Ip:=c7 (o':=O.ins "Bounds" (m7 "worn_by_place" (.ref w) (f3 cs.length v))) (e2.at yW) vI;have Ry:=c7 (o':=O.ins "Bounds" (m7 "worn_by_place" (.ref w) (f3 cs.length v))) (e2.at yU) yE;have k3:(∀i,i<g.length->i≠b->(g2.set b (O.ins "Bounds" (m7 "worn_by_place" (.ref w) (f3 cs.length v))))[i]?=g[i]?)/\g.length<=(g2.set b (O.ins "Bounds" (m7 "worn_by_place" (.ref w) (f3 cs.length v)))).length:=#[λi hi hn=>by rw[aI (aZ hn),e2.old i ()];exact k1.1 i hi hn,by simp;have:=e2.len;omega]
 generalize g2.set b (O.ins "Bounds" (m7 "worn_by_place" (.ref w) (f3 cs.length v)))=g3 at *;show WY (k:=k+4) hT Ip hz λg4 l e4 HY hl=>?_;show P8 (e4.at Cm) #[_] (by first|(simp;done)|(refine xM ?_;repeat (first|(rw[uC];omega)|(simp;done)|refine xN ?_))) ?_;have ll:l≠b:=λz=>by have:=i8 Cm;omega
 generalize ho:O.ins "Bounds" (m7 "later_by_place" (.ref l) (m7 "worn_by_place" (.ref w) (f3 cs.length v)))=o5;have Ck:=get_set (o':=o5) (e4.at Cm);have QJ:=c7 (o':=o5) (e4.at QK) lw.symm;have Rc:=c7 (o':=o5) hl ll.symm;have Io:=c7 (o':=o5) (e4.at Ip) vI;have Rx:=c7 (o':=o5) (e4.at Ry) yE;have k5:(∀i,i<g.length->i≠b->(g4.set b o5)[i]?=g[i]?)/\g.length<=(g4.set b o5).length:=#[λi hi hn=>by rw[aI (aZ hn),e4.old i ()];exact k3.1 i hi hn,by simp;have:=e4.len;omega]
 generalize g4.set b o5=g5 at *;subst ho;show aG9 (k:=k) hT Io hz hg λg6 dd e6 Il hd=>?_;show P8 (e6.at Ck) #[_] (by first|(simp;done)|(refine xM ?_;repeat (first|(rw[uC];omega)|(simp;done)|refine xN ?_))) ?_;have ld:dd≠b:=λz=>by have:=i8 Ck;omega
 generalize ho:O.ins "Bounds" (m7 "lower_dies" (.ref dd) (m7 "later_by_place" (.ref l) (m7 "worn_by_place" (.ref w) (f3 cs.length v))))=o7;have Cj:=get_set (o':=o7) (e6.at Ck);have QI:=c7 (o':=o7) (e6.at QJ) lw.symm;have Rb:=c7 (o':=o7) (e6.at Rc) ll.symm;have Rt:=c7 (o':=o7) hd ld.symm;have RE:=c7 (o':=o7) (e6.at Io) vI;have Rw:=c7 (o':=o7) (e6.at Rx) yE;have k7:(∀i,i<g.length->i≠b->(g6.set b o7)[i]?=g[i]?)/\g.length<=(g6.set b o7).length:=#[λi hi hn=>by rw[aI (aZ hn),e6.old i ()];exact k5.1 i hi hn,by simp;have:=e6.len;omega]
 generalize g6.set b o7=g7 at *;subst ho;show Xg (k:=k+4) hT RE hz Rw hr λg8 nb e8 hn1 hn=>?_;show P8 (e8.at Cj) #[_] (by first|(simp;done)|(refine xM ?_;repeat (first|(rw[uC];omega)|(simp;done)|refine xN ?_))) ?_;have lb7:=i8 Cj;have ln:nb≠b:=λz=>by omega
 generalize ho:O.ins "Bounds" (m7 "needed_by_place" (.ref nb) (m7 "lower_dies" (.ref dd) (m7 "later_by_place" (.ref l) (m7 "worn_by_place" (.ref w) (f3 cs.length v)))))=o9;refine h _ (by simp;have:=e8.len;omega) (λi hi hn=>by rw[aI (aZ hn),e8.old i ()];exact k7.1 i hi hn) #[#[w,l,dd,nb,?_,c7 (e8.at QI) lw.symm,c7 (e8.at Rb) ll.symm,c7 (e8.at Rt) ld.symm,?_]]
 ·rw[get_set (e8.at Cj),<- ho]
  rfl
 ·let#[as,q1,q2,q3,q4,q5]:=hn.ex;exact#[#[as,c7 q1 ln.symm,q2,q3,λx hx=>#[by omega,(q4 x hx).2],λi x hx=>let ⟨ms,m1,m2⟩:=q5 i x hx;#[ms,c7 m1 (λz=>by have:=(q4 x (aJ hx)).1;omega),m2]]]
end
section
variable{T:Nat->Option aR}{d:Nat}{c:Nat}
def aQ6(hT:TB T)(ha:g[a]?=some (.lst (cs.map a9.d)))(hz:cs.length<=1000)(hB:∀c∈cs,CB c)(hc:g[c]?=some (.lst (Q2 rs)))(hr:rs.length<=900)(hm:9<cs.length->E #["TooMany"] g)(hb:cs.length<=9->cs.all j5=false->E #["BadCoin"] g)(hv:cs.length<=9->cs.all j5=true->¬(1<=v/\v<=9)->E #["BadAnvils"] g)(hw:cs.length<=9->cs.all j5=true->1<=v/\v<=9->rs.all (E6 cs)=false->∀g',Ex g g'->False)(h:cs.length<=9->cs.all j5=true->1<=v/\v<=9->rs.all (E6 cs)=true->∀g' b,Ex g g'->g.length<=b->Bd g' b cs v rs->Q (.ref b) g'):b7 T (k+10) 99 [.ref a,.int v,.ref c] g Q E:=by
 refine call_of hT.RN rfl ?_;delta EB;show aC1 (k:=k+2) hT.toTB0 hT.wB hT.CC ha hz hc hr hm hb hv hw λh9 hg hv hR g1 e1=>?_;left;have x1:=Ex.snoc g1 (O.ins "Bounds" []);refine aC6 (k:=k) hT (x1.at (e1.at ha)) h9 hg hB (x1.at (e1.at hc)) hr b8 λg2 l2 o2 B2=>?_;refine#[rfl,h h9 hg hv hR g2 _ #[by have:=e1.len;simp at l2;omega,λi hi=>?_] e1.len B2];have:=e1.len;rw[o2 i (by simp;omega) (),x1.old i ()];exact e1.old i hi
def aT3(hT:TB T)(ha:g[a]?=some (.lst (cs.map a9.d)))(hz:cs.length<=9)(hg:cs.all j5=true)(hB:∀c∈cs,CB c)(hv:1<=v/\v<=9)(hc:g[c]?=some (.lst (Q2 rs)))(hr:rs.length<=900)(hR:rs.all (E6 cs)=true)(h:∀g' b,Ex g g'->g.length<=b->Bd g' b cs v rs->Q (.ref b) g'):b7 T (k+10) 99 [.ref a,.int v,.ref c] g Q E :=
 aQ6 hT ha () hB hc hr (λz=>by omega) (λ_ z=>by rw[hg] at z;cases z) (λ_ _ z=>absurd hv z) (λ_ _ _ z=>by rw[hR] at z;cases z) λ_ _ _ _=>h
def aB7(hT:TB0 T)(B:Bd g b cs v rs)(hz:cs.length<=9){s}(hs:s<2 ^ cs.length)(hp:p<cs.length)(h:∀g',Ex g g'->Q (.int (qP cs s.testBit p:Nat)) g'):b7 T (k+2) 100 [.ref b,.int (s:Nat),.int (p:Nat)] g Q E:=by
 refine call_of hT.Dr rfl ?_;delta EU;let#[w,l,dd,nb,h1,h2,h3,h4,h5]:=B.ex;show R7 (k:=k) hT.uh () ?_;show u3 h1 rfl ?_;left;have e1:((2 ^ cs.length-1:Nat):Int)-(s:Nat)=((2 ^ cs.length-1-s:Nat):Int):=by omega
 rw[e1];have vY:(m5 (cs.map a9.lo)).length<=9:=aD (Q6 _) (by simpa using hz);have Ro:(oy cs).length=(m5 (cs.map a9.lo)).length:=by simp[oy]
 refine N8 (a8 T _) (λZ=>∃z2 z3,Z=[some (.int ((2 ^ cs.length-1-s:Nat):Int)),some (.int ((s |||2 ^ p:Nat):Int)),z2,z3]) (λi=>uW cs s.testBit p ((m5 (cs.map a9.lo)).getD i 0)) (λi=>(oy cs).getD i .br) (l:=oy cs) (k:=.lst dd) (λg' e=>n9 (a7 (e.at h4))) () #[none,none,rfl] (λi x Z g' hx e sh=>?_) (λg' e=>?_) (sT (a8 T _) (a7 h4) λQ q=>?_)
 ·let#[z2,z3,rfl]:=sh;have HN:=hx;rw[oy,ah,aa] at HN;let#[iX,hd,rfl]:=HN;have eg:(m5 (cs.map a9.lo)).getD i 0=iX:=by simp[List.getD,hd]
  refine j9 ?_;show xf ?_;left;have b1:=Na (n:=cs.length) (q:=meant cs .lower iX) (s:=s |||2 ^ p) (S:=λi=>s.testBit i||decide (i=p)) (λi _=>zP s p i);have b2:=Na (n:=cs.length) (q:=meant cs .lower iX) (s:=2 ^ cs.length-1-s) (S:=λi=>!s.testBit i) (λi hi=>Vc hs hi);rw[b1,eg];have hu:uW cs s.testBit p iX=(((List.range cs.length).any λi=>(s.testBit i||decide (i=p))&&meant cs .lower iX i)&&(List.range cs.length).any λi=>!s.testBit i&&meant cs .lower iX i):=rfl;rw[hu];cases (List.range cs.length).any λi=>(s.testBit i||decide (i=p))&&meant cs .lower iX i with
  |false =>
   refine ei rfl ?_;exact#[rfl,e,ei rfl #[_,_,rfl]]
  |true =>
   refine eM rfl ?_;show xf ?_;left;rw[b2,gS];refine#[rfl,e,?_];cases (List.range cs.length).any λi=>!s.testBit i&&meant cs .lower iX i with
   |false=>exact ei rfl #[_,_,rfl]
   |true =>
    refine eM rfl ?_;show#[?_,e,_,_,rfl];simp[List.getD,hx]
 ·refine xi (a7 b8) ?_;have:(((List.range (oy cs).length).filter λi=>uW cs s.testBit p ((m5 (cs.map a9.lo)).getD i 0)).map λi=>(oy cs).getD i .br).length=qP cs s.testBit p:=by
   rw[ai,Ro,a37 (m5 (cs.map a9.lo)) 0 (uW cs s.testBit p)]
   rfl
  rw[this];exact h _ (e.trans (Ex.snoc _ _))
 ·left;exact u3 h1 rfl q
def OE{q}(hp:p<cs.length):jc (tP cs q) (p:Int)=some (.int ((iE cs.length λj=>q (fk cs j) (fk cs p):Nat):Int)):=O9 (by rw[tP,ah,eG hp];rfl)
def Nb{s}{q}:((Builtin.bitAnd (s:Nat) ((iE n q:Nat):Int)) != 0)=(List.range n).any λi=>s.testBit i&&q i:=by rw[Gd,zt]
def aG5(hT:TB0 T)(B:Bd g b cs v rs)(hz:cs.length<=9)(hr:rs.length<=900){s}(hs:s<2 ^ cs.length)(hp:p<cs.length)(h:∀g',Ex g g'->Q (zb (fault cs v rs s.testBit p)) g'):b7 T (k+3) 101 [.ref b,.int (s:Nat),.int (p:Nat)] g Q E:=by
 refine call_of hT.Dq rfl ?_;delta EV;let#[w,l,dd,nb,h1,h2,h3,h4,h5]:=B.ex;show u3 h1 rfl ?_;show E5 (a7 h2) (OE hp) ?_;refine xf ?_;left;rw[Nb];cases c1:(List.range cs.length).any λi=>s.testBit i&&mw (fk cs i) (fk cs p) with
 |true =>
  refine eM rfl ?_;have:fault cs v rs s.testBit p="wear":=by unfold fault Y8;rw[aH c1]
  rw[this] at h;exact h _ (Ex.refl _)
 |false =>
 refine ei rfl ?_;show u3 h1 rfl ?_;show E5 (a7 h3) (OE hp) ?_;refine xf ?_;left;rw[Nb];cases c2:(List.range cs.length).any λi=>s.testBit i&&kK (fk cs i) (fk cs p) with
 |true =>
  refine eM rfl ?_;have:fault cs v rs s.testBit p="year":=by unfold fault Y8 X0;rw[az (by rw[c1];decide),aH c2]
  rw[this] at h;exact h _ (Ex.refl _)
 |false =>
 refine ei rfl ?_;show aB7 (k:=k) hT B hz hs hp λg2 e2=>?_;show u3 (e2.at h1) rfl ?_;show if2 (λc3=>?_) (λc3=>?_)
 ·have:fault cs v rs s.testBit p="anvil":=by unfold fault Y8 X0;rw[az (by rw[c1];decide),az (by rw[c2];decide),aH c3]
  rw[this] at h;exact h _ e2
 left;let#[as,q1,q2,q3,q4,q5]:=h5.ex;have yN:p<as.length:=by omega
 have Cn:=au yN;generalize as[p]=ap at Cn;let#[ms,m1,m2,m3]:=q5 p ap Cn;refine comp_map (a8 T _) (λZ=>∃z1 z2,Z=[some (.int (s:Nat)),z1,z2]) (λi=>.int ((s &&& ms.getD i 0:Nat):Int)) (l:=b0 ms) (k:=.lst ap) (λg' e=>n9 (a7 ((e2.trans e).at m1))) (by simp[b0];omega) #[none,none,rfl] (λi x Z g' hx e sh=>?_) (λg' e=>?_) (sT (a8 T _) (a7 (e2.at m1)) λQ q=>?_)
 ·let#[z1,z2,rfl]:=sh;rw[b0,ah,aa] at hx;let#[m,hm,rfl]:=hx;refine j9 ?_;show xf ?_;refine#[?_,e,_,_,rfl];rw[Gd];simp[List.getD,hm]
 ·refine b34 (ns:=(List.range (b0 ms).length).map λi=>((s &&& ms.getD i 0:Nat):Int)) (a7 (by rw[aX];exact b8)) ?_;have en:(((List.range (b0 ms).length).map λi=>((s &&& ms.getD i 0:Nat):Int)).all λn=>n != 0)=ux cs rs s.testBit p:=by
   rw[bf,bt];unfold ux;rw[bt];constructor
   ·intro hA r hr;cases BS:meant cs r.w r.y p with
    |false=>rfl
    |true =>
     have hm:=(m3 (iE cs.length (meant cs r.w r.x))).mpr #[r,hr,BS,rfl];let#[i,hi]:=cI.mp hm;have Ib:=(aw.mp hi).1;have:=hA ((s &&& iE cs.length (meant cs r.w r.x):Nat):Int) (ao.mpr #[i,bj.mpr (by simpa[b0] using Ib),by simp[List.getD,hi]]);rw[zt] at this;exact this
   ·intro hA x hx;let#[i,hi,rfl]:=ao.mp hx;have hi:i<ms.length:=by simpa[b0] using hi
    have hm:ms.getD i 0∈ms:=by simp[List.getD,hi]
    let#[r,hr,BS,em]:=(m3 _).mp hm;have:=hA r hr;rw[BS,Bool.not_true,Bool.false_or] at this;rw[em,zt];exact this
  rw[en];left;cases c4:ux cs rs s.testBit p with
  |true =>
   have:fault cs v rs s.testBit p="":=by unfold fault Y8 X0;rw[az (by rw[c1];decide),az (by rw[c2];decide),az c3,aH c4]
   rw[this] at h;exact h _ (e2.trans (e.trans (Ex.snoc _ _)))
  |false =>
   have:fault cs v rs s.testBit p="rule":=by unfold fault Y8 X0;rw[az (by rw[c1];decide),az (by rw[c2];decide),az c3,az (by rw[c4];decide)]
   rw[this] at h;exact h _ (e2.trans (e.trans (Ex.snoc _ _)))
 ·show u3 (e2.at h1) rfl ?_;left;exact E5 (a7 (e2.at q1)) (O9 (by rw[ah,Cn];rfl)) q
end
def Xc{ns}{x}:x∈m5 ns↔x∈ns:=by
 rw[(K5 ns).mem_iff,ST.Z2];simp
def Vi(ns:List Int):(m5 ns).Nodup:=(K5 ns).nodup_iff.mpr (ST.Oj _ _ #[_])
abbrev zH:aR:=#[3,3,(.seq (.ret (.dS (bN (.cmp .NotEq) (.call 91 (cY aL aV)) aL) (bN (.cmp .Is) (.call 101 (fj aA aL aV)) (.lit .br)))) .pass)]
abbrev Lb:aR:=#[2,2,(.seq (.ret (.comp [0,1] 4 (.one 3) (.fL (cB (.fld "size") aA)) (.eB (.call 115 (fj aA aL bx))) bx)) .pass)]
abbrev Y4(cs:List a9)(v:Int)(rs:List gD)(s p:Nat):Bool:=!s.testBit p&&decide (fault cs v rs s.testBit p="")
abbrev V0(cs:List a9)(v:Int)(rs:List gD)(s:Nat):List Nat:=(List.range cs.length).filter (Y4 cs v rs s)
def UZ(x:Str):Z5 (zb x)=decide (x=""):=by
 unfold zb;by_cases h:x=""
 ·rw[aH h,aE h];rfl
 ·rw[az h,ax h];rfl
def XF{s}:decide (((s |||2 ^ p:Nat):Int)=(s:Nat))=s.testBit p:=by
 rw[bf,dg];constructor
 ·intro h;have h:s |||2 ^ p=s:=by omega
  have:=zP s p p;rw[h] at this;rw[this];simp
 ·intro h;have:s |||2 ^ p=s:=Nat.eq_of_testBit_eq λi=>by
   rw[zP];by_cases hi:i=p
   ·subst hi;rw[h];rfl
   ·rw[ax hi,Bool.or_false]
  rw[this]
structure TF(T:Nat->Option aR):Prop where
 sD:T 115=some zH
 Dn:T 116=some Lb
section
variable{T:Nat->Option aR}{d:Nat}
def a33(hT:TB0 T)(sD:T 115=some zH)(B:Bd g b cs v rs)(hz:cs.length<=9)(hr:rs.length<=900){s}(hs:s<2 ^ cs.length)(hp:p<cs.length)(h:∀g',Ex g g'->Q (.bl (Y4 cs v rs s p)) g'):b7 T (k+4) 115 [.ref b,.int (s:Nat),.int (p:Nat)] g Q E:=by
 refine call_of sD rfl ?_;delta zH;show R7 (k:=k+2) hT.uh () ?_;left;rw[XF];cases hb:s.testBit p with
 |true =>
  refine ei rfl ?_;have:Y4 cs v rs s p=false:=by unfold Y4;rw[hb];rfl
  rw[this] at h;exact h _ (Ex.refl _)
 |false =>
  refine eM rfl ?_;show aG5 (k:=k) hT B hz hr hs hp λg1 e1=>?_;left;have:Y4 cs v rs s p=Z5 (zb (fault cs v rs s.testBit p)):=by unfold Y4;rw[hb,UZ];rfl
  rw[this] at h;exact h _ e1
def LM(hT:TB0 T)(hF:TF T)(B:Bd g b cs v rs)(hz:cs.length<=9)(hr:rs.length<=900){s}(hs:s<2 ^ cs.length)(h:∀g' l,Ex g g'->g.length<=l->g'[l]?=some (.lst (b0 (V0 cs v rs s)))->Q (.ref l) g'):b7 T (k+5) 116 [.ref b,.int (s:Nat)] g Q E:=by
 refine call_of hF.Dn rfl ?_;let#[w,l,dd,nb,h1,h2,h3,h4,h5]:=B.ex;refine N8 (a8 T _) (λZ=>∃z2 z3,Z=[some (.ref b),some (.int (s:Nat)),z2,z3]) (Y4 cs v rs s) (λi=>.int (i:Nat)) (l:=E0 0 cs.length) (λg' e=>L3) (by rw[O3];omega) #[none,none,rfl] (λi d Z g' hx e sh=>?_) (λg' e=>?_) (Ko (a8 T _) (by omega:cs.length<=1000) λQ q=>?_)
 ·let#[z2,z3,rfl]:=sh;let#[hi,rfl]:=U1 hx;rw[iA];refine j9 ?_;show a33 (k:=k) hT hF.sD (B.at e) hz hr hs hi λg2 e2=>?_;show#[rfl,e.trans e2,?_];cases Y4 cs v rs s i with
  |true =>
   refine eM rfl ?_;left;exact#[rfl,e.trans e2,_,_,rfl]
  |false=>exact ei rfl #[_,_,rfl]
 ·rw[O3];exact h _ _ (e.trans (Ex.snoc _ _)) e.len b8
 ·left;exact u3 h1 rfl q
end
abbrev FG(n:Nat)(F:Nat->List Nat):Prop:=∀s p,p∈F s->p<n/\s.testBit p=false
abbrev Y9(n:Nat)(F:Nat->List Nat):Nat->Nat->List (List Nat)
 |0,s=>if s=2 ^ n-1 then[[]] else[]
 |f+1,s=>if s=2 ^ n-1 then[[]] else(F s).flatMap λp=>(Y9 n F f (s |||2 ^ p)).map (p::·)
abbrev E2(n:Nat)(F:Nat->List Nat)(s:Nat):List (List Nat):=Y9 n F (2 ^ n) s
def Ar{s}(h:s.testBit p=false):s<s |||2 ^ p:=by
 have h1:s<=s |||2 ^ p:=Nat.left_le_or
 have h2:s |||2 ^ p≠s:=λe=>by
  have:=zP s p p;rw[e,h] at this;simp at this
 omega
def V1{β:Type}{l:List α}{f g:α->List β}(h:∀x∈l,f x=g x):l.flatMap f=l.flatMap g:=by
 induction l with
 |nil=>rfl
 |cons a r ih=>rw[dW,dW,h a #[_],ih λx hx=>h x (by simp[hx])]
def Lg{n}{F}(hF:FG n F):∀(f s:Nat),s<2 ^ n->2 ^ n-1-s<=f->Y9 n F f s=Y9 n F (f+1) s
 |0,s,hs,hf=>by
  have e:s=2 ^ n-1:=by omega
  simp only[Y9];rw[aH e,aH e]
 |f+1,s,hs,hf=>by
  rw[Y9,Y9];by_cases e:s=2 ^ n-1
  ·rw[aH e,aH e]
  ·rw[az e,az e];refine V1 λp hp=>?_;have:=hF s p hp;rw[Lg hF f (s |||2 ^ p) (xP hs this.1) (by have:=Ar this.2;omega)]
def EJ{F}{s}(h:s=2 ^ n-1):E2 n F s=[[]]:=by
 unfold E2;obtain⟨m,hm⟩:∃m,2 ^ n=m+1:=#[2 ^ n-1,by have:=gp (n:=n);omega]
 rw[hm,Y9,aH h]
def Gs{F}(hF:FG n F){s}(hs:s<2 ^ n)(h:s≠2 ^ n-1):E2 n F s=(F s).flatMap λp=>(E2 n F (s |||2 ^ p)).map (p::·):=by
 unfold E2;obtain⟨m,hm⟩:∃m,2 ^ n=m+1:=#[2 ^ n-1,by have:=gp (n:=n);omega]
 conv=>lhs;rw[hm,Y9,az h]
 refine V1 λp hp=>?_;have:=hF s p hp;rw[hm,<- Lg hF m (s |||2 ^ p) (xP hs this.1) ()]
def Us{F}(hF:FG n F){s}(hs:s<2 ^ n)(h:s≠2 ^ n-1):(E2 n F s).length=((F s).map λp=>(E2 n F (s |||2 ^ p)).length).sum:=by
 rw[Gs hF hs h,List.length_flatMap];simp[Function.comp_def]
inductive kX(F:Nat->List Nat):Nat->Prop
 |zero:kX F 0
 |step {s p:Nat} (h:kX F s) (hp:p∈F s):kX F (s |||2 ^ p)
def kX.lt{F}(hF:FG n F){s}(h:kX F s):s<2 ^ n:=by
 induction h with
 |zero=>exact Nat.two_pow_pos _
 |step h hp ih=>exact xP ih (hF _ _ hp).1
def Gi(cs:List a9)(v:Int)(rs:List gD):FG cs.length (V0 cs v rs):=λs p hp=>by
 let#[h1,h2]:=aS.mp hp;unfold Y4 at h2;rw[aP,kG] at h2;exact#[bj.mp h1,h2.1]
noncomputable abbrev kN(j:Nat):Key:=.inl (j:Int)
def VJ{c}{x}:v8 (putD kvs c x) c=some x:=by
 unfold v8 putD;by_cases h:(kvs.any λkv=>decide (kv.1=c))=true
 ·rw[aH h]
  induction kvs with
  |nil=>cases h
  |cons kv r ih =>
   rw[cx,df];by_cases hk:kv.1=c
   ·rw[aH hk];simp[hk]
   ·rw[az hk];simp only[hk,decide_false];refine ih ?_;rw[gQ,dN] at h;exact h.resolve_left (by simp[hk])
 ·rw[az h,List.find?_append];have:kvs.find? (λkv=>decide (kv.1=c))=none:=by
   rw[Pf];exact λkv hk hc=>h (bw.mpr #[kv,hk,hc])
  rw[this];simp
def a82{c c'}{x}(hn:c≠c'):v8 (putD kvs c x) c'=v8 kvs c':=by
 unfold v8 putD;by_cases h:(kvs.any λkv=>decide (kv.1=c))=true
 ·rw[aH h];clear h
  induction kvs with
  |nil=>rfl
  |cons kv r ih =>
   rw[cx,df,df];by_cases hk:kv.1=c
   ·rw[aH hk];have:kv.1≠c':=λz=>hn (hk.symm.trans z);simp only[this,decide_false];exact ih
   ·rw[az hk];by_cases qv:kv.1=c'
    ·simp only[qv,decide_true]
    ·simp only[qv,decide_false];exact ih
 ·rw[az h,List.find?_append];have:[(c,x)].find? (λkv=>decide (kv.1=c'))=none:=by simp[hn]
  rw[this];simp
def VL{c}{x}:(putD kvs c x).length<=kvs.length+1:=by
 unfold putD;split<;>simp
def Xp{i}(h:i≠j):kN i≠kN j:=λz=>h (by have:(i:Int)=j:=dh z;omega)
abbrev U2:aR:=#[1,5,(.seq (.set 1 (.prim (.jZ 0) .nil)) (.seq (.set 2 (.prim .lst .nil)) (.seq (.fg (.one 3) (.fL (bN (.bin .Add) (cB (.fld "full") aA) (aT 1))) (.seq (.ifs (cN .In bx aL) (.seq (.expr (.fu .append aV (cX bx))) (.seq (.fg (.one 4) (.eZ (.call 116 (cY aA bx))) (.seq (.expr (.fu .ka aL (cX (.call 91 (cY bx dw))))) .pass)) .pass)) .pass) .pass)) (.seq (.ret aV) .pass))))]
abbrev Gm:aR:=#[1,3,(.seq (.set 1 (.prim .Y5 .nil)) (.seq (.fg (.one 2) (.nP (.call 117 (cX aA))) (.seq (.ifs (cN .Eq aV (cB (.fld "full") aA)) (.seq (.cS aL aV (aT 1)) .pass) (.seq (.cS aL aV (cB .sum (.comp [2,1] 4 (.one 3) (.eZ (.call 116 (cY aA aV))) .no (bA aL (.call 91 (cY aA bx)))))) .pass)) .pass)) (.seq (.ret aL) .pass)))]
abbrev xR:aR:=#[3,3,(.seq (.ret (bA (.call 121 (cX (.call 99 (fj aA aL aV)))) (aT 0))) .pass)]
def My:∀{l m:List Nat},l.Nodup->(∀x∈l,x∈m)->l.length<=m.length
 |[],m,_,_=>bO _
 |x::r,m,nd,h=>by
  rw[cP] at nd;have:=My (l:=r) (m:=m.erase x) nd.2 λy hy=>(AN λz=>nd.1 (by simp_all)).mpr (h y (by simp[hy]))
  grind
section
variable{Z:S}
inductive yf(P:fb)(t:MT)(elt:ME)(Q:KD)(Z:S)(k:IK)(g1:G):Prop
 |mk (l:List D) (Sh:S->Prop) (w:Nat->D) (hk:∀g',Ex g1 g'->k.Is l g') (hl:l.length<=1000) (h0:Sh Z)
   (hs:∀i d Z g',l[i]?=some d->Ex g1 g'->Sh Z->jT t d Z λcz=>aW P elt cz g' (λy g4=>y=w i/\Ex g1 g4/\Sh cz) jt) (hd:∀g',Ex g1 g'->Q (.ref g'.length) (g'++[.lst ((List.range l.length).map w)])):yf P t elt Q Z k g1
def WD(hP:j8 P)(h:gE P it Z g (yf P t elt Q (Q1 Z d6 n)) E):aW P (.comp d6 n t it .no elt) Z g Q E:=by
 refine M7 hP (F5 hP it _ _ _ _ _ _ (λk g1 h=>?_) (λ_ _ z=>z) h);let#[l,Sh,w,hk,hl,h0,hs,hd]:=h;refine#[l,λi ys Z g'=>Ex g1 g'/\ys=(List.range i).map w/\Sh Z,hl,λi ys Z g' q=>#[hk _ q.1,by simp_all],#[Ex.refl _,rfl,h0],λi x ys Z g' hx q=>?_,λys Z g' q=>?_]
 ·let#[e1,rfl,sh]:=q;refine A8 (λcz q=>M3 (iV (c9 hP elt _ _ _ _ _ _ (λy g4 q=>?_) (λ_ _ z=>z) q))) (hs i x Z g' hx e1 sh);let#[rfl,e4,sh]:=q;exact#[e4,by rw[iL,bE];rfl,sh]
 ·let#[e1,rfl,sh]:=q;exact hd g' e1
end
abbrev pL(g:G)(sd n:Nat)(K:List Nat):Prop:=∃S m,g[sd]?=some (.set S m)/\m=K.length/\K.Nodup/\(∀j∈K,j<2 ^ n)/\∀k:Int,S k=true↔∃j∈K,k=(j:Nat)
def pL.at{g g'}{sd n}{K}(h:pL g sd n K)(e:Ex g g'):pL g' sd n K:=let ⟨S,m,h1,h2⟩:=h;#[S,m,e.at h1,h2]
def pL.size{sd}{K}(h:pL g sd n K):K.length<=2 ^ n:=by
 let#[S,m,_,_,nd,lt,_]:=h;have:=My (m:=List.range (2 ^ n)) nd λx hx=>bj.mpr (lt x hx)
 simp_all
structure TW(T:Nat->Option aR):Prop where
 sC:T 117=some U2
 Dm:T 121=some Gm
structure Wy(g:G)(w:Nat)(cs:List a9)(v:Int)(rs:List gD):Prop where
 ex:∃kvs,g[w]?=some (.cg kvs)/\∀s,kX (V0 cs v rs) s->v8 kvs (kN s)=some (.int ((E2 cs.length (V0 cs v rs) s).length:Nat))
def a16(hl:l.Pairwise (· > ·)){s x}(hi:l[i]?=some s)(hx:x∈l)(h:s<x):x∈l.take i:=by
 let#[j,hj,rfl]:=dq.mp hx;let#[iY,rfl]:=aw.mp hi;have Rg:j<i:=by
  rcases fm j i with z|z|z
  ·exact z
  ·subst z;omega
  ·have:=da.mp hl i j iY hj z;omega
 exact cI.mpr #[j,by rw[eQ Rg,au hj]]
def Kv(h:n<=9):1<=2 ^ n/\2 ^ n<=512:=#[gp,AM () h]
section
variable{T:Nat->Option aR}{d:Nat}
def a07(hT:TB0 T)(hF:TF T)(sC:T 117=some U2)(B:Bd g b cs v rs)(hz:cs.length<=9)(hr:rs.length<=900)(h:∀(L:List Nat) l g',Ex g g'->g.length<=l->g'[l]?=some (.lst (b0 L))->L.Pairwise (· < ·)->(∀s,s∈L↔kX (V0 cs v rs) s)->L.length<=512->Q (.ref l) g'):b7 T (k+6) 117 [.ref b] g Q E:=by
 refine call_of sC rfl ?_;have sv:=Gi cs v rs;generalize ug:V0 cs v rs=F at *;let#[w0,l0,dd,nb,f1,f2,f3,f4,f5]:=B.ex;have p2:=Kv hz;refine bA8 ?_;have s1:pL (g++[O.set (λk=>decide (k=0)) 1]) g.length cs.length [0]:=#[_,_,b8,rfl,by simp,by simp;omega,λk=>by simp]
 have e1:=Ex.snoc g (O.set (λk=>decide (k=0)) 1);generalize g++[O.set (λk=>decide (k=0)) 1]=g1 at *;left;have e2:=e1.trans (Ex.snoc g1 (O.lst []));have s2:=s1.at (Ex.snoc g1 (O.lst []));have t2:=b8 (g:=g1) (o:=O.lst []);have l1:g.length<g1.length:=by let#[_,_,z,_]:=s1;exact i8 z
 generalize g1.length=tl at *;refine K4 (a8 T _) (xW (a8 T _) ?_);show u3 (e2.at f1) rfl ?_;left;have en:((2 ^ cs.length-1:Nat):Int)+1=((2 ^ cs.length:Nat):Int):=by omega
 rw[en];refine#[by omega,by omega,E0 0 (2 ^ cs.length),λt Z g'=>Ex g g'/\(∃K,pL g' g.length cs.length K/\∀j,j∈K↔j=0\/∃s p,s<t/\kX F s/\p∈F s/\j=s |||2 ^ p)/\(∃L,g'[tl]?=some (.lst (b0 L))/\L.Pairwise (· < ·)/\(∀s,s∈L↔s<t/\kX F s)/\L.length<=t)/\∃z3 z4,Z=[some (.ref b),some (.ref g.length),some (.ref tl),z3,z4],λ_ _ _ _=>by exact L3,#[e2,#[[0],s2,λj=>by simp],#[[],t2,by simp,by simp,by simp],none,none,rfl],λt x Z g' hx q=>?_,λZ g' q=>?_]
 ·let#[e3,#[K,s3,hK],#[L,t3,pw,hL,Cu],z3,z4,rfl]:=q;let#[ht,rfl]:=U1 hx;rw[iA];have mU:t∈K↔kX F t:=by
   rw[hK];constructor
   ·rintro(rfl|⟨s,p,_,h2,h3,rfl⟩)
    ·exact .zero
    ·exact .step h2 h3
   ·intro h;cases h with
    |zero=>exact .inl rfl
    |step h hp=>exact .inr #[_,_,Ar (sv _ _ hp).2,h,hp,rfl]
  refine j9 ?_;left;let#[S,m,sg,sm,snd,slt,sS]:=id s3;refine b28 sg ?_;left;have Ir:S (t:Nat)=true↔kX F t:=by
   rw[sS,<- mU];exact#[(by rintro ⟨j,hj,e⟩;rw[show t=j by omega];exact hj),λz=>#[t,z,rfl]]
  cases hb:S (t:Nat) with
  |false =>
   have nW:¬kX F t:=λz=>by rw[Ir.mpr z] at hb;cases hb
   refine ei rfl ?_;refine#[e3,#[K,s3,λj=>(hK j).trans #[?_,?_]],#[L,t3,pw,λs=>(hL s).trans #[λz=>#[by omega,z.2],λz=>#[?_,z.2]],by omega],_,_,rfl]
   ·rintro(z|⟨s,p,h1,h2⟩)
    ·exact .inl z
    ·exact .inr #[s,p,by omega,h2]
   ·rintro(z|⟨s,p,h1,h2,h3⟩)
    ·exact .inl z
    ·refine .inr #[s,p,?_,h2,h3];rcases iy s t with y|y
     ·exact y
     ·exact absurd (show kX F t by rw[show t=s by omega];exact h2) nW
   ·rcases iy s t with y|y
    ·exact y
    ·exact absurd (show kX F t by rw[show t=s by omega];exact z.2) nW
  |true =>
   have hR:=Ir.mp hb;refine eM rfl ?_;show Jw t3 (by simp[b0];omega) ?_;have PK:tl≠g.length:=by omega
   have s4:pL (g'.set tl (.lst (b0 L++[D.int (t:Nat)]))) g.length cs.length K:=#[S,m,c7 sg PK,sm,snd,slt,sS]
   have t4:(g'.set tl (.lst (b0 L++[D.int (t:Nat)])))[tl]?=some (.lst (b0 (L++[t]))):=by rw[get_set t3];simp[b0]
   have e4:Ex g (g'.set tl (.lst (b0 L++[D.int (t:Nat)]))):=#[by simp;exact e3.len,λi hi=>by rw[aI ()];exact e3.old i hi]
   generalize g'.set tl (.lst (b0 L++[D.int (t:Nat)]))=g4 at *;show K4 (a8 T _) (iH (a8 T _) ?_);show LM (k:=k) hT hF (B.at e4) hz hr ht λg5 fl e5 Rj h5=>?_;rw[ug] at h5;have l4:tl<g4.length:=i8 t4;refine#[fl,_,rfl,a7 h5,b0 (F t),λj Z g'=>Ex g g'/\g'[fl]?=some (.lst (b0 (F t)))/\g'[tl]?=some (.lst (b0 (L++[t])))/\(∃K',pL g' g.length cs.length K'/\∀x,x∈K'↔x∈K\/∃p∈(F t).take j,x=t |||2 ^ p)/\∃z4,Z=[some (.ref b),some (.ref g.length),some (.ref tl),some (.int (t:Nat)),z4],λj Z g' q=>n9 (a7 q.2.1),#[e4.trans e5,h5,e5.at t4,#[K,s4.at e5,λx=>by simp],z4,rfl],λj x Z g' hx q=>?_,λZ g' q=>?_]
   ·let#[e6,h6,t6,#[K',s6,uf],z4,rfl]:=q;rw[b0,ah,aa] at hx;let#[p,hp,rfl]:=hx;have yO:=aJ hp;have nU:=(sv _ _ yO)
    have tk:(F t).take (j+1)=(F t).take j++[p]:=by rw[bh,hp];rfl
    let#[S6,m6,yA,Hr,vn,vo,tQ]:=id s6;refine j9 ?_;show#[bC0 yA,?_];show R7 (k:=k+4) hT.uh () ?_;have hsz:=s6.size;refine Zg yA () ?_;have dO:=xP ht nU.1;refine#[#[by simp;exact e6.len,λi hi=>by rw[aI ()];exact e6.old i hi],c7 h6 (),c7 t6 (),?_,_,rfl];by_cases mV:S6 ((t |||2 ^ p:Nat):Int)=true
    ·refine#[K',#[_,_,get_set yA,by rw[aH mV];exact Hr,vn,vo,λk=>?_],λx=>?_]
     ·rw[dN,dg];constructor
      ·rintro(z|z)
       ·exact(tQ k).mp z
       ·subst z;exact(tQ _).mp mV
      ·exact λz=>.inl ((tQ k).mpr z)
     ·rw[uf x,tk];simp only[List.mem_append,List.mem_singleton];constructor
      ·rintro(z|⟨q,z1,z2⟩)
       ·exact .inl z
       ·exact .inr #[q,.inl z1,z2]
      ·rintro(z|⟨q,z1|z1,z2⟩)
       ·exact .inl z
       ·exact .inr #[q,z1,z2]
       ·subst z1 z2;let#[y,y1,y2]:=(tQ _).mp mV;rw[<- uf,show(t |||2 ^ q)=y by omega];exact y1
    ·have BQ:(t |||2 ^ p)∉K':=λz=>mV ((tQ _).mpr #[_,z,rfl]);refine#[K'++[t |||2 ^ p],#[_,_,get_set yA,by rw[az mV];simp[Hr],?_,λy hy=>?_,λk=>?_],λx=>?_]
     ·rw[dn];exact#[vn,by simp,λx hx y hy=>by cases ba.mp hy;exact λz=>BQ (z▸hx)]
     ·rcases bD.mp hy with z|z
      ·exact vo y z
      ·cases ba.mp z;exact dO
     ·rw[dN,dg,tQ];simp only[List.mem_append,List.mem_singleton];constructor
      ·rintro(⟨y,y1,y2⟩|z)
       ·exact#[y,.inl y1,y2]
       ·exact#[_,.inr rfl,z]
      ·rintro⟨y,y1|y1,y2⟩
       ·exact .inl #[y,y1,y2]
       ·subst y1;exact .inr y2
     ·rw[bD,ba,uf x,tk];simp only[List.mem_append,List.mem_singleton];constructor
      ·rintro((z|⟨q,z1,z2⟩)|z)
       ·exact .inl z
       ·exact .inr #[q,.inl z1,z2]
       ·exact .inr #[p,.inr rfl,z]
      ·rintro(z|⟨q,z1|z1,z2⟩)
       ·exact .inl (.inl z)
       ·exact .inl (.inr #[q,z1,z2])
       ·subst z1;exact .inr z2
   ·let#[e6,h6,t6,#[K',s6,uf],z4,rfl]:=q;rw[b0,ai,bu] at uf;refine#[e6,#[K',s6,λj=>(uf j).trans ?_],#[L++[t],t6,?_,λs=>?_,by simp;omega],_,_,rfl]
    ·rw[hK j];constructor
     ·rintro((z|⟨s,p,h1,h2⟩)|⟨p,h1,h2⟩)
      ·exact .inl z
      ·exact .inr #[s,p,by omega,h2]
      ·exact .inr #[t,p,by omega,hR,h1,h2]
     ·rintro(z|⟨s,p,h1,h2,h3,h4⟩)
      ·exact .inl (.inl z)
      ·rcases iy s t with y|y
       ·exact .inl (.inr #[s,p,y,h2,h3,h4])
       ·have:s=t:=by omega
        subst this;exact .inr #[p,h3,h4]
    ·rw[fK];exact#[pw,by simp,λx hx y hy=>by cases ba.mp hy;exact((hL x).mp hx).1]
    ·rw[bD,ba,hL s];constructor
     ·rintro(z|z)
      ·exact#[by omega,z.2]
      ·subst z;exact#[by omega,hR]
     ·rintro⟨z1,z2⟩;rcases iy s t with y|y
      ·exact .inl #[y,z2]
      ·exact .inr ()
 ·let#[e3,#[K,s3,hK],#[L,t3,pw,hL,Cu],z3,z4,rfl]:=q;rw[O3] at hL Cu;left;exact h L tl g' e3 () t3 pw (λs=>(hL s).trans #[λz=>z.2,λz=>#[z.lt sv,z]]) ()
def Ut(hT:TB0 T)(hF:TF T)(hW:TW T)(B:Bd g b cs v rs)(hz:cs.length<=9)(hr:rs.length<=900)(h:∀w g',Ex g g'->g.length<=w->Wy g' w cs v rs->Q (.ref w) g'):b7 T (k+7) 121 [.ref b] g Q E:=by
 refine call_of hW.Dm rfl ?_;delta Gm;have sv:=Gi cs v rs;generalize ug:V0 cs v rs=F at *;let#[w0,l0,dd,nb,f1,f2,f3,f4,f5]:=B.ex;have p2:=Kv hz;left;have e1:=Ex.snoc g (O.cg []);have w1:=b8 (g:=g) (o:=O.cg []);generalize g++[O.cg []]=g1 at *;refine K4 (a8 T _) (QB ?_);show a07 (k:=k) hT hF hW.sC (B.at e1) hz hr λL l g2 e2 hl h2 pw hL Cu=>?_;rw[ug] at hL;have lw:=i8 w1;have Qj:L.reverse.Pairwise (· > ·):=List.pairwise_reverse.mpr pw;have Bw:(b0 L).length=L.length:=by simp[b0]
 refine#[l,_,rfl,a7 h2,(b0 L).reverse,λi Z g'=>Ex g g'/\g'[l]?=some (.lst (b0 L))/\(∃kvs,g'[g.length]?=some (.cg kvs)/\kvs.length<=i/\∀s∈L.reverse.take i,v8 kvs (kN s)=some (.int ((E2 cs.length F s).length:Nat)))/\∃z2,Z=[some (.ref b),some (.ref g.length),z2],λi Z g' q=>YV (a7 q.2.1),#[e1.trans e2,h2,#[[],e2.at w1,by simp,by simp],none,rfl],λi x Z g' hx q=>?_,λZ g' q=>?_]
 ·let#[e3,h3,#[kvs,w3,hk,wa],z2,rfl]:=q;rw[b0,<- List.map_reverse,ah,aa] at hx;let#[s,hs,rfl]:=hx;have Ib:i<L.length:=by have:=(aw.mp hs).1;simpa using this
  have HR:kX F s:=(hL s).mp (lI.mp (aJ hs));have lg:=HR.lt sv;have tk:L.reverse.take (i+1)=L.reverse.take i++[s]:=by rw[bh,hs];rfl
  have fin:∀(N:Ends) g4 z2,Ex g' g4->(∀g5,(Ex g g5/\g5[l]?=some (.lst (b0 L))/\(∃kvs,g5[g.length]?=some (.cg kvs)/\kvs.length<=i+1/\∀s∈L.reverse.take (i+1),v8 kvs (kN s)=some (.int ((E2 cs.length F s).length:Nat)))/\∃z2,([some (.ref b),some (.ref g.length),z2]:S)=[some (.ref b),some (.ref g.length),z2])->N.nx [some (.ref b),some (.ref g.length),z2] g5)->oB (.ref g.length) (.int (s:Nat)) (.int ((E2 cs.length F s).length:Nat)) g4 λg5=>N.nx [some (.ref b),some (.ref g.length),z2] g5:=λN g4 z2 e4 hN=>by
   refine S1 (e4.at w3) rfl () ?_;refine hN _ #[#[by simp;exact(e3.trans e4).len,λj hj=>by rw[aI ()];exact(e3.trans e4).old j hj],c7 (e4.at h3) (),#[_,get_set (e4.at w3),aD VL (),λs' HS=>?_],z2,rfl];rw[tk] at HS;by_cases BK:s'=s
   ·subst BK;exact VJ
   ·refine(a82 (Xp (aZ BK))).trans (wa s' ?_);rcases bD.mp HS with z|z
    ·exact z
    ·exact absurd (ba.mp z) BK
  refine j9 ?_;show u3 (e3.at f1) rfl ?_;left;have ed:decide (((s:Nat):Int)=((2 ^ cs.length-1:Nat):Int))=decide (s=2 ^ cs.length-1):=fF.mpr ();rw[ed];refine if2 (λc1=>?_) (λc1=>?_)
  ·left;have e1:(1:Int)=((E2 cs.length F s).length:Nat):=by rw[EJ c1];rfl
   rw[e1];exact fin _ _ _ (Ex.refl _) λg5 z=>#[z.1,z.2.1,z.2.2.1,_,rfl]
  ·show WD (a8 T _) (iH (a8 T _) ?_);show LM (k:=k+1) hT hF (B.at e3) hz hr lg λg4 fl e4 Rj h4=>?_;rw[ug] at h4;refine#[fl,_,rfl,a7 h4,b0 (F s),λZ=>∃z2 z3,Z=[some (.int (s:Nat)),some (.ref g.length),z2,z3],λi=>.int ((E2 cs.length F (s |||2 ^ ((F s).getD i 0))).length:Nat),λg' e=>n9 (a7 (e.at h4)),?_,#[none,none,rfl],λj d Z g5 hx e5 sh=>?_,λg5 e5=>?_]
   ·have:(F s).length<=cs.length:=by rw[<- ug];exact xQ
    simp[b0];omega
   ·let#[z2,z3,rfl]:=sh;rw[b0,ah,aa] at hx;let#[p,hp,rfl]:=hx;have yO:=aJ hp;have nU:=sv _ _ yO;refine j9 ?_;show R7 (k:=k+5) hT.uh () ?_;have hv:v8 kvs (kN (s |||2 ^ p))=some (.int ((E2 cs.length F (s |||2 ^ p)).length:Nat)):=by
     refine wa _ (a16 Qj hs (lI.mpr ((hL _).mpr (.step HR yO))) (Ar nU.2))
    refine m8 ((e4.trans e5).at w3) rfl hv ?_;exact#[by simp[List.getD,hp],e5,_,_,rfl]
   ·have el:(List.range (b0 (F s)).length).map (λi=>D.int ((E2 cs.length F (s |||2 ^ ((F s).getD i 0))).length:Nat))=(((F s).map λp=>(E2 cs.length F (s |||2 ^ p)).length).map λ(n:Nat)=>(n:Int)).map D.int:=by
     refine kE λi=>?_;rw[ah,ah,ah,ah];by_cases hi:i<(F s).length
     ·rw[eG (by simpa[b0] using hi),au hi];simp[List.getD,hi]
     ·rw[bq (by simpa[b0] using hi),bq ()]
      rfl
    rw[el];refine JH (a7 b8) ?_;have es:(((F s).map λp=>(E2 cs.length F (s |||2 ^ p)).length).map λ(n:Nat)=>(n:Int)).sum=((E2 cs.length F s).length:Nat):=by
     rw[Us sv lg c1];generalize (F s).map (λp=>(E2 cs.length F (s |||2 ^ p)).length)=m
     induction m with
     |nil=>rfl
     |cons x r ih=>simp[ih]
    rw[es];left;exact fin _ _ _ (e4.trans (e5.trans (Ex.snoc _ _))) λg6 z=>#[z.1,z.2.1,z.2.2.1,_,rfl]
 ·let#[e3,h3,#[kvs,w3,hk,wa],z2,rfl]:=q;rw[List.length_reverse,Bw,ve #[_]] at wa;show h _ _ e3 (av _) #[#[kvs,w3,λs hs=>?_]];rw[ug] at hs ⊢;exact wa s (lI.mpr ((hL s).mpr hs))
end
section
variable{T:Nat->Option aR}{d:Nat}{c w:Nat}
def aS6(hT:TB T)(hF:TF T)(hW:TW T)(ng:T 126=some xR)(ha:g[a]?=some (.lst (cs.map a9.d)))(hz:cs.length<=9)(hg:cs.all j5=true)(hB:∀c∈cs,CB c)(hv:1<=v/\v<=9)(hc:g[c]?=some (.lst (Q2 rs)))(hr:rs.length<=900)(hR:rs.all (E6 cs)=true)(h:∀g',Ex g g'->Q (.int ((E2 cs.length (V0 cs v rs) 0).length:Nat)) g'):b7 T (k+11) 126 [.ref a,.int v,.ref c] g Q E:=by
 refine call_of ng rfl ?_;delta xR;show aT3 (k:=k) hT ha hz hg hB hv hc hr hR λg1 b e1 _ B=>?_;show Ut (k:=k+3) hT hF hW B hz hr λw g2 e2 _ W=>?_;left;let#[kvs,w1,w2]:=W.ex;exact m8 w1 rfl (w2 0 .zero) (h _ (e1.trans e2))
end
abbrev rP(q:Nat->Nat->Bool):Nat->List Nat->Bool
 |_,[]=>true
 |s,p::r=>q s p&&rP q (s |||2 ^ p) r
def Lv{α β:Type}{f:α->List β}{q:α->Bool}:∀l:List α,(l.filter q).flatMap f=l.flatMap λx=>if q x=true then f x else[]
 |[]=>rfl
 |x::r=>by
  rw[dW,<- Lv r];cases h:q x
  ·rw[tN (by rw[h];decide),az ∅]
   rfl
  ·rw[tM h,aH rfl,dW]
def Lw{α β:Type}{f:α->List β}{q:β->Bool}:∀l:List α,(l.flatMap f).filter q=l.flatMap λx=>(f x).filter q
 |[]=>rfl
 |x::r=>by rw[dW,cA,Lw r,dW]
def LF{n}{F F'}{q}(hF:FG n F)(hq:∀s,F' s=(F s).filter (q s)):∀(m s:Nat),2 ^ n-s<=m->s<2 ^ n->E2 n F' s=(E2 n F s).filter (rP q s)
 |0,s,hm,hs=>by omega
 |m+1,s,hm,hs=>by
  have RL:FG n F':=λs p hp=>hF s p (aS.mp (hq s▸hp)).1;by_cases e:s=2 ^ n-1
  ·rw[EJ e,EJ e]
   rfl
  ·rw[Gs RL hs e,Gs hF hs e,hq,Lv,Lw];refine V1 λp hp=>?_;have nU:=hF s p hp;have ih:=LF hF hq m (s |||2 ^ p) (by have:=Ar nU.2;omega) (xP hs nU.1);rw[eV];cases HU:q s p
   ·have:(rP q s ∘ λx=>p::x)=λ_=>false:=by funext x;simp[rP,HU]
    rw[this];simp
   ·rw[aH rfl,ih];have:(rP q s ∘ λx=>p::x)=rP q (s |||2 ^ p):=by funext x;simp[rP,HU]
    rw[this]
abbrev Aq(cs:List a9)(r:gD)(s p:Nat):Bool:=!meant cs r.w r.y p||(List.range cs.length).any λi=>s.testBit i&&meant cs r.w r.x i
abbrev GA(cs:List a9)(v:Int)(s p:Nat):Bool:=!Y8 cs s.testBit p&&(!X0 cs s.testBit p&&!decide (v<qP cs s.testBit p))
def Nm(cs:List a9)(v:Int)(rs:List gD)(s p:Nat):decide (fault cs v rs s.testBit p="")=(GA cs v s p&&rs.all λr=>Aq cs r s p):=by
 have en:(rs.all λr=>Aq cs r s p)=ux cs rs s.testBit p:=rfl;rw[en];unfold fault GA;cases Y8 cs s.testBit p
 ·cases X0 cs s.testBit p
  ·by_cases h:v<qP cs s.testBit p
   ·rw[az ∅,az ∅,aH h,aE h]
    rfl
   ·rw[az ∅,az ∅,az h,ax h];cases ux cs rs s.testBit p<;>decide +kernel
  rfl
 rfl
abbrev many(cs:List a9)(v:Int)(rs:List gD):Nat:=(E2 cs.length (V0 cs v rs) 0).length
abbrev Z3:aR:=#[3,3,(.seq (.ret (bN (.bin .Add) (bN (.bin .Add) (bN (.lY false true) aA aL) (cB .tup aV)) (bN (.lY true false) aA (bN (.bin .Add) aL (aT 1))))) .pass)]
abbrev EC:aR:=#[3,3,(.seq (.ifs (.de (.eB (.call 74 (fj aA aL aV)))) (.seq (.raise "NoDie" (cX (cv "no coin is of that die"))) .pass) .pass) .pass)]
abbrev Lc:aR:=#[1,2,(.seq (.set 1 (aT 1)) (.seq (.kI (cN .In aL aA) (.seq (.kW 1 .iadd (aT 1)) .pass)) (.seq (.ret aL) .pass)))]
abbrev Fn:aR:=#[1,1,(.seq (.gi "held" ["Cabinet"] aA (.prim .Y5 .nil)) (.seq (.gi "claims" ["Cabinet"] aA (.prim .Y5 .nil)) (.seq (.gi "last_coin" ["Cabinet"] aA (aT 0)) (.seq (.gi "last_fact" ["Cabinet"] aA (aT 0)) .pass))))]
abbrev F9:aR:=#[2,2,(.seq (.ifs (.gF (.de (.eB (.call 38 (cX aL)))) (cN .NotIn aL (cB (.fld "held") aA))) (.seq (.raise "NoCoin" (cX (cv "no coin has that number"))) .pass) .pass) .pass)]
abbrev P2:aR:=#[3,3,(.seq (.expr (.bK "check_number" [("Cabinet",209)] aA (cX aL))) (.seq (.expr (.bK "check_number" [("Cabinet",209)] aA (cX aV))) (.seq (.ifs (cN .Eq aL aV) (.seq (.raise "SameOne" (cX (cv "two unlike coins are asked for"))) .pass) .pass) .pass)))]
abbrev P1:aR:=#[3,4,(.seq (.set 3 (.call 19 (cX aL))) (.seq (.ret (.comp [2,3,0] 5 (.one 4) (.eZ (.bK "numbers" [("Cabinet",221)] aA .nil)) (cN .Eq (bA (bA (cB (.fld "held") aV) dw) aL) aA) dw)) .pass))]
abbrev T1:aR:=#[4,6,(.seq (.set 4 (.call 19 (cX aL))) (.seq (.fg (.one 5) (.eZ aV) (.seq (.cS (cB (.fld "held") aA) fz (.call 177 (fj (bA (cB (.fld "held") aA) fz) dw bx))) .pass)) .pass))]
abbrev P6:aR:=#[2,2,(.seq (.expr (.call 39 (cX aL))) (.seq (.ifs (cN .Eq (cB .len (cB (.fld "held") aA)) (aT 9)) (.seq (.raise "Full" (cX (cv "there is no room for one more coin"))) .pass) .pass) (.seq (.kj "last_coin" ["Cabinet"] aA (aT 1)) (.seq (.cS (cB (.fld "held") aA) (cB (.fld "last_coin") aA) aL) (.seq (.ret (cB (.fld "last_coin") aA)) .pass)))))]
abbrev Y1:aR:=#[3,4,(.seq (.set 3 (.bK "coin" [("Cabinet",222)] aA (cX aL))) (.seq (.expr (.call 39 (cX aV))) (.seq (.cS (cB (.fld "held") aA) aL aV) (.seq (.ret bx) .pass))))]
abbrev Fo:aR:=#[3,3,(.seq (.expr (.bK "check_pair" [("Cabinet",210)] aA (cY aL aV))) (.seq (.kj "last_fact" ["Cabinet"] aA (aT 1)) (.seq (.cS (cB (.fld "claims") aA) (cB (.fld "last_fact") aA) (bN .tup aL aV)) (.seq (.ret (cB (.fld "last_fact") aA)) .pass))))]
abbrev O5:aR:=#[4,5,(.seq (.expr (.call 40 (cX aL))) (.seq (.expr (.call 75 (fj (.bK "coins" [("Cabinet",223)] aA .nil) aL aV))) (.seq (.expr (.call 75 (fj (.bK "coins" [("Cabinet",223)] aA .nil) aL bx))) (.seq (.ifs (cN .Eq aV bx) (.seq (.raise "SameOne" (cX (cv "two unlike dies are asked for"))) .pass) .pass) (.seq (.set 4 (.bK "numbers_of" [("Cabinet",211)] aA (cY aL bx))) (.seq (.expr (.bK "give_die" [("Cabinet",212)] aA (fj aL dw aV))) (.seq (.ret dw) .pass)))))))]
abbrev M5:aR:=#[4,7,(.seq (.expr (.call 40 (cX aL))) (.seq (.expr (.call 75 (fj (.bK "coins" [("Cabinet",223)] aA .nil) aL aV))) (.seq (.set 4 (.bK "numbers_of" [("Cabinet",211)] aA (cY aL aV))) (.seq (.fg (.one 5) (.eZ bx) (.seq (.ifs (.gF (.de (.eB (.call 38 (cX fz)))) (cN .NotIn fz dw)) (.seq (.raise "NoCoin" (cX (cv "no coin of that die has that number"))) .pass) .pass) .pass)) (.seq (.ifs (.gF (cN .NotEq (cB .nB bx) (cB .len bx)) (cN .In (cB .len bx) (bN .tup (aT 0) (cB .len dw)))) (.seq (.raise "BadList" (cX (cv "some coins of the die are asked for, each once, not all of them"))) .pass) .pass) (.seq (.set 6 (.call 194 (cX (.call 20 (cY (.bK "coins" [("Cabinet",223)] aA .nil) aL))))) (.seq (.expr (.bK "give_die" [("Cabinet",212)] aA (fj aL bx gy))) (.seq (.ret gy) .pass))))))))]
abbrev S5:aR:=#[1,1,(.seq (.ret (cB .eW (cB (.fld "held") aA))) .pass)]
abbrev T2:aR:=#[2,2,(.seq (.expr (.bK "check_number" [("Cabinet",209)] aA (cX aL))) (.seq (.ret (bA (cB (.fld "held") aA) aL)) .pass))]
abbrev Y3:aR:=#[1,1,(.seq (.ret (.comp [0] 3 (.one 2) (.eZ (.bK "numbers" [("Cabinet",221)] aA .nil)) .no (bA (cB (.fld "held") aA) aV))) .pass)]
abbrev Y2:aR:=#[1,1,(.seq (.ret (.comp [0] 3 (.one 2) (.eZ (cB .eW (cB (.fld "claims") aA))) .no (.prim .tup (fj aV (bA (bA (cB (.fld "claims") aA) aV) (aT 0)) (bA (bA (cB (.fld "claims") aA) aV) (aT 1)))))) .pass)]
noncomputable abbrev Hs:=List (Nat×a9)
noncomputable abbrev Fs:=List (Nat×Int×Int)
noncomputable abbrev kC(j:Nat):Key:=.inl (j:Int)
abbrev fZ(hs:Hs):List (Key×D):=hs.map λp=>(kC p.1,p.2.d)
abbrev gU(fs:Fs):List (Key×D):=fs.map λp=>(kC p.1,.tup [.int p.2.1,.int p.2.2])
abbrev nums{α:Type}(hs:List (Nat×α)):List Nat:=hs.map (·.1)
abbrev d8(hs:Hs):List a9:=hs.map (·.2)
abbrev fh(l:List Nat):Prop:=l.Pairwise (· < ·)
def K6(hs:List (Nat×α)):(nums hs).length=hs.length:=by simp[nums]
def UU(hs:Hs):(fZ hs).map (·.1)=((nums hs).map λn:Nat=>(n:Int)).map Sum.inl:=by simp[fZ,nums,kC]
def UO(fs:Fs):(gU fs).map (·.1)=((nums fs).map λn:Nat=>(n:Int)).map Sum.inl:=by simp[gU,nums,kC]
def p8{α:Type}{f:α->D}:∀{hs:List (Nat×α)} {n:Nat} {c:α},fh (nums hs)->(n,c)∈hs->v8 (hs.map λp=>(kC p.1,f p.2)) (kC n)=some (f c)
 |[],_,_,_,h=>by cases h
 |(m,e)::r,n,c,inc,h=>by
  have jI:=cU.mp inc;unfold v8;rw[cx,df];by_cases hm:m=n
  ·subst hm;have:c=e:=by
    rcases aF.mp h with z|z
    ·exact(AL z).2
    ·have:=jI.1 m (ao.mpr #[_,z,rfl]);exact absurd this (bL m)
   subst this;simp
  ·have h':(n,c)∈r:=(aF.mp h).resolve_left λz=>hm (AL z).1.symm;have fM:decide (kC m=kC n)=false:=ax λz=>hm (by have:(m:Int)=n:=dh z;omega);simp only[fM];exact p8 jI.2 h'
def bF9{f:α->D}(hs:List (Nat×α))(v:Int):(v8 (hs.map λp=>(kC p.1,f p.2)) (.inl v)).isSome=(nums hs).any λn=>decide ((n:Int)=v):=by
 unfold v8;rw[gI,bf,List.find?_isSome,bw];constructor
 ·rintro⟨x,hx,e⟩;let#[p,hp,rfl]:=ao.mp hx;exact#[p.1,ao.mpr #[p,hp,rfl],aE (dh (aM e))]
 ·rintro⟨n,hn,e⟩;let#[p,hp,rfl]:=ao.mp hn;exact#[_,ao.mpr #[p,hp,rfl],aE (cT Sum.inl (aM e))]
abbrev nD(hs:Hs)(n:Nat)(c:a9):Hs:=hs.map λp=>if p.1=n then(p.1,c) else p
def zC(h:n∈nums hs):putD (fZ hs) (kC n) c.d=fZ (nD hs n c):=by
 unfold putD;rw[aH,fZ,nD,aX,fZ,aX]
 ·refine bP λp _=>?_;show(if kC p.1=kC n then(kC p.1,c.d) else(kC p.1,p.2.d))=_;by_cases e:p.1=n
  ·simp[e]
  ·have:¬kC p.1=kC n:=λz=>e (by have:(p.1:Int)=n:=dh z;omega);simp[e,this]
 ·let#[p,hp,rfl]:=ao.mp h;exact bw.mpr #[_,ao.mpr #[p,hp,rfl],aE rfl]
def NA(h:n∉nums hs):putD (fZ hs) (kC n) c.d=fZ (hs++[(n,c)]):=by
 unfold putD;rw[az]
 ·simp[fZ]
 ·intro z;let#[x,hx,e]:=bw.mp z;let#[p,hp,rfl]:=ao.mp hx;have:(p.1:Int)=n:=dh (aM e);exact h (ao.mpr #[p,hp,by omega])
def Nq(h:fh l):(l.map λn:Nat=>(n:Int)).Pairwise (·<=·):=cF.mpr (h.imp λz=>by omega)
def Kb(h:fh l):(l.map λn:Nat=>(n:Int)).Nodup:=cF.mpr (h.imp λz e=>by omega)
def V'(h:fh l):S0 (l.map λn:Nat=>(n:Int))=l.map λn:Nat=>(n:Int):=Q8 (EY _) (Lm _) (Nq h)
def NG(h:fh l):m5 (l.map λn:Nat=>(n:Int))=l.map λn:Nat=>(n:Int):=by
 refine Q8 ((K5 _).trans ?_) (EZ _) (Nq h);rw[T7 (ks:=[]) (by simpa using Kb h)]
 rfl
def L7(l:List Nat):b0 l=(l.map λn:Nat=>(n:Int)).map D.int:=by simp[b0]
noncomputable abbrev gW(hd cl:Nat)(lc lf:Int):O:=.ins "Cabinet" [("held",.ref hd),("claims",.ref cl),("last_coin",.int lc),("last_fact",.int lf)]
structure fT(g:G)(m hd cl:Nat)(lc lf:Int)(hs:Hs)(fs:Fs):Prop where
 o:g[m]?=some (gW hd cl lc lf)
 h:g[hd]?=some (.cg (fZ hs))
 c:g[cl]?=some (.cg (gU fs))
structure ij(hs:Hs):Prop where
 inc:fh (nums hs)
 len:hs.length<=9
 good:∀p∈hs,lF p.2
def fT.at{g g'}{m hd cl}{lc lf}{hs}{fs}(C:fT g m hd cl lc lf hs fs)(e:Ex g g'):fT g' m hd cl lc lf hs fs:=#[e.at C.o,e.at C.h,e.at C.c]
abbrev cu:RW->Int
 |.lower=>0
 |_=>2
def J'(w:RW):cu w=0\/cu w=2:=by cases w<;>simp[cu]
abbrev numsOf(hs:Hs)(f v:Int):List Nat:=(hs.filter λp=>decide (H9 f p.2=v)).map (·.1)
def Lf(h:fh (nums hs))(f v:Int):fh (numsOf hs f v):=iR (dA.map _) h
def Z0{n}(h:n∈numsOf hs f v):n∈nums hs:=by
 let#[p,hp,rfl]:=ao.mp h;exact ao.mpr #[p,(aS.mp hp).1,rfl]
def numsOf_len(hs:Hs)(f v:Int):(numsOf hs f v).length<=hs.length:=by
 unfold numsOf;rw[ai];exact cJ _ _
def Lp(h:ij hs):(d8 hs).all j5=true:=by
 rw[bt];intro c hc;let#[p,hp,rfl]:=ao.mp hc;exact(h.good p hp).good
def Mw(hw:w≠.dR)(v:Int)(i:Nat):meant cs w v i=decide (H9 (cu w) (fk cs i)=v):=by
 cases w with
 |dR=>exact absurd rfl hw
 |lower=>rfl
 |upper=>rfl
def VA(hw:w≠.dR)(v:Int):(iG (d8 hs) w v).isEmpty=(numsOf hs (cu w) v).isEmpty:=by
 rw[bf,et,et];constructor
 ·intro h;rw[numsOf,Hc,iz];intro p hp hd;let#[i,hi,e]:=eF hp;have hl:i<(d8 hs).length:=by simpa[d8] using hi
  have:i∈iG (d8 hs) w v:=by
   refine aS.mpr #[bj.mpr hl,?_];rw[Mw hw,X8 (c:=p.2) (by simp[d8,hi,e])];exact hd
  rw[h] at this;cases this
 ·intro h;rw[iG,iz];intro i hi hd;have hl:=bj.mp hi;rw[Mw hw] at hd;have vZ:i<hs.length:=by simpa[d8] using hl
  rw[X8 (c:=hs[i].2) (by simp[d8,vZ])] at hd;have:hs[i].1∈numsOf hs (cu w) v:=ao.mpr #[hs[i],aS.mpr #[cj vZ,hd],rfl];rw[h] at this;cases this
abbrev a9.re(c:a9)(f v:Int):a9:=if f=0 then{ c with lo:=v } else{ c with up:=v }
def XY(c:a9)(f v:Int):(c.re f v).re f v=c.re f v:=by
 unfold a9.re;split<;>rfl
abbrev k9(hs:Hs)(ns:List Nat)(f v:Int):Hs:=hs.map λp=>if p.1∈ns then(p.1,p.2.re f v) else p
def Nv{F:Nat×a9->Nat×a9}(h:∀p,(F p).1=p.1):nums (hs.map F)=nums hs:=by
 unfold nums;rw[aX];exact bP λp _=>h p
def F0(hs:Hs)(ns:List Nat)(f v:Int):nums (k9 hs ns f v)=nums hs:=Nv λp=>by split<;>rfl
def lF.re{c}(h:lF c){f v}(h1:1<=v)(h2:v<=99):lF (c.re f v):=by
 let#[a1,a2,a3,a4,a5,a6]:=h.inv;unfold a9.re;split
 ·exact lF.mk' h1 h2 a3.1 a3.2 a5 a6 a2 a4 h.l8 h.u8
 ·exact lF.mk' a1.1 a1.2 h1 h2 a5 a6 a2 a4 h.l8 h.u8
def ij.give(h:ij hs){ns}(h1:1<=v)(h2:v<=99):ij (k9 hs ns f v):=by
 refine#[by rw[F0];exact h.inc,by simpa[k9] using h.len,λp hp=>?_];let#[q,hq,rfl]:=ao.mp hp;split
 ·exact(h.good q hq).re h1 h2
 ·exact h.good q hq
def NX(inc:fh (nums hs)){ns}(hc:(n,c)∈k9 hs ns f v):nD (k9 hs ns f v) n (c.re f v)=k9 hs (ns++[n]) f v:=by
 unfold nD;have jI:fh (nums (k9 hs ns f v)):=by rw[F0];exact inc
 have e:(k9 hs ns f v).map (λp=>if p.1=n then(p.1,c.re f v) else p)=(k9 hs ns f v).map λp=>if p.1=n then(p.1,p.2.re f v) else p:=by
  refine bP λp hp=>?_;by_cases hn:p.1=n
  ·have h1:=p8 (f:=λc:a9=>D.tup [.int c.lo,.int c.up,.int c.yr,.tup (c.lm.map .int),.tup (c.um.map .int)]) jI hc;have h2:=p8 (f:=λc:a9=>D.tup [.int c.lo,.int c.up,.int c.yr,.tup (c.lm.map .int),.tup (c.um.map .int)]) jI (show(n,p.2)∈_ by rw[<- hn];exact hp);have:c=p.2:=by
    have h3:=aG (h1.symm.trans h2);simp only[D.tup.injEq,List.cons.injEq,D.int.injEq,and_true] at h3;let#[a1,a2,a3,a4,a5]:=h3;have inj:∀{a b:List Int},a.map D.int=b.map D.int->a=b:=λ{a b} z=>Pe (λx y z=>by cases z;rfl) |>.mp z
    have b4:=inj a4;have b5:=inj a5;let#[d1,d2,d3,d4,d5]:=c;simp only at a1 a2 a3 b4 b5;subst a1 a2 a3 b4 b5
    rfl
   rw[aH hn,aH hn,this]
  ·rw[az hn,az hn]
 rw[e];unfold k9;rw[aX];refine bP λp _=>?_;show(if(if p.1∈ns then(p.1,p.2.re f v) else p).1=n then _ else _)=_;by_cases h1:p.1∈ns
 ·simp only[List.mem_append,h1,true_or,if_true,XY];split<;>rfl
 ·by_cases h2:p.1=n
  ·have h3:¬n∈ns:=h2▸h1;simp[h2,h3]
  ·simp[h1,h2]
structure TC(T:Nat->Option aR):Prop where
 nf:NF T
 h2:T 2=some O4
 mq:T 12=some E9
 pG:GV T
 iZ:AG T
 CZ:T 20=some xI
 pE:T 74=some X6
 RY:T 75=some EC
 Dj:T 177=some Z3
 Dh:T 194=some Lc
 CU:T 208=some Fn
 wG:T 209=some F9
 CS:T 211=some P1
 CQ:T 212=some T1
 sy:T 214=some P6
 wF:T 219=some O5
 wD:T 220=some M5
 CK:T 221=some S5
 wC:T 222=some T2
 CJ:T 223=some Y3
 CI:T 224=some Y2
section
variable{Z:S}{c:ME}
inductive yi(α:Type)(P:fb)(t:MT)(c elt:ME)(Q:KD)(Z:S)(k:IK)(g1:G):Prop
 |mk (l:List α) (fl:α->D) (Sh:S->Prop) (p:α->Bool) (w:α->D) (hk:∀g',Ex g1 g'->k.Is (l.map fl) g') (hl:l.length<=1000) (h0:Sh Z)
   (hs:∀x Z g',x∈l->Ex g1 g'->Sh Z->jT t (fl x) Z λcz=>dP P c cz g' (λb g3=>b=p x/\Ex g1 g3/\if b=true then aW P elt cz g3 (λy g4=>y=w x/\Ex g1 g4/\Sh cz) jt else Sh cz) jt) (hd:∀g',Ex g1 g'->Q (.ref g'.length) (g'++[.lst ((l.filter p).map w)])):yi α P t c elt Q Z k g1
def L4(hP:j8 P)(h:gE P it Z g (yi α P t c elt Q (Q1 Z d6 n)) E):aW P (.comp d6 n t it c elt) Z g Q E:=by
 refine M7 hP (F5 hP it _ _ _ _ _ _ (λk g1 h=>?_) (λ_ _ z=>z) h);let#[l,fl,Sh,p,w,hk,hl,h0,hs,hd]:=h;refine#[l.map fl,λi ys Z g'=>Ex g1 g'/\ys=((l.take i).filter p).map w/\Sh Z,by simpa using hl,λi ys Z g' q=>#[hk _ q.1,?_],#[Ex.refl _,by simp,h0],λi x ys Z g' hx q=>?_,λys Z g' q=>?_]
 ·let#[_,rfl,_]:=q;rw[ai];exact aD (cJ _ _) (by rw[bG];omega)
 ·let#[e1,rfl,sh]:=q;rw[ah,aa] at hx;let#[x,hx,rfl]:=hx;refine A8 (λcz q=>u7 hP c _ _ _ _ _ _ (λb g3 q=>?_) (λ_ _ z=>z) q) (hs x Z g' (aJ hx) e1 sh);let#[rfl,e3,q]:=q;have ef:((l.take (i+1)).filter p).map w=((l.take i).filter p).map w++if p x=true then[w x] else[]:=by
   rw[bh,hx,cA,bE];cases z:p x<;>simp[z]
  cases hp:p x with
  |true =>
   rw[hp] at q ef;refine c9 hP elt _ _ _ _ _ _ (λy g4 q=>?_) (λ_ _ z=>z) q;let#[rfl,e4,sh]:=q;exact#[e4,by rw[ef];rfl,sh]
  |false =>
   rw[hp] at q ef;exact#[e3,by rw[ef];simp,q]
 ·let#[e1,rfl,sh]:=q;rw[ai,bu];exact hd g' e1
end
section
variable{T:Nat->Option aR}{d:Nat}{c:Nat}
def O7(l:List α):l.filter (λ_=>true)=l:=fV.mpr λ_ _=>rfl
def Z1(hT:TC T)(C:fT g m hd cl lc lf hs fs)(inc:fh (nums hs))(hz:hs.length<=50)(h:Q (.ref g.length) (g++[.lst (b0 (nums hs))])):b7 T (k+1) 221 [.ref m] g Q E:=by
 refine call_of hT.CK rfl ?_;delta S5;show u3 C.o rfl ?_;refine MA C.h (UU hs) (by simp[nums];omega) ?_;rw[NG inc,<- L7];exact h
def z8(hT:TC T)(C:fT g m hd cl lc lf hs fs)(inc:fh (nums hs))(hz:hs.length<=50)(h:∀g' r,Ex g g'->g.length<=r->g'[r]?=some (.lst ((d8 hs).map a9.d))->Q (.ref r) g'):b7 T (k+2) 223 [.ref m] g Q E:=by
 refine call_of hT.CJ rfl ?_;delta Y3;show L4 (α:=Nat×a9) (a8 T _) (iH (a8 T _) ?_);show i0 C.o rfl rfl ?_;show Z1 (k:=k) hT C inc hz ?_;have e1:=Ex.snoc g (O.lst (b0 (nums hs)));refine#[_,_,rfl,a7 b8,hs,λp=>.int (p.1:Nat),λZ=>∃z1 z2,Z=[some (.ref m),z1,z2],λ_=>true,λp=>p.2.d,λg' e=>n9 (a7 ?_),by omega,#[none,none,rfl],λp Z g' hp e sh=>?_,λg' e=>?_]
 ·rw[show hs.map (λp=>D.int (p.1:Nat))=b0 (nums hs) by simp[b0,nums]];exact e.at b8
 ·let#[z1,z2,rfl]:=sh;refine j9 (M3 #[rfl,e,iV ?_]);left;have C':=(C.at e1).at e;refine u3 C'.o rfl ?_;left;exact m8 C'.h rfl (p8 (f:=a9.d) inc hp) #[rfl,e,_,_,rfl]
 ·rw[O7];refine h _ _ ((e1.trans e).trans (Ex.snoc _ _)) (e1.trans e).len ?_;rw[d8,aX];exact b8
def Nl(hT:TC T)(C:fT g m hd cl lc lf hs fs)(inc:fh (nums fs))(hz:fs.length<=50)(h:∀g' r,Ex g g'->g.length<=r->g'[r]?=some (.lst (fs.map λf=>.tup [.int (f.1:Nat),.int f.2.1,.int f.2.2]))->Q (.ref r) g'):b7 T (k+2) 224 [.ref m] g Q E:=by
 refine call_of hT.CI rfl ?_;delta Y2;show L4 (α:=Nat×Int×Int) (a8 T _) (iH (a8 T _) ?_);show u3 C.o rfl ?_;show MA C.c (UO fs) (by simp[nums];omega) ?_;rw[NG inc,<- L7];have e1:=Ex.snoc g (O.lst (b0 (nums fs)));refine#[_,_,rfl,a7 b8,fs,λp=>.int (p.1:Nat),λZ=>∃z1 z2,Z=[some (.ref m),z1,z2],λ_=>true,λf=>.tup [.int (f.1:Nat),.int f.2.1,.int f.2.2],λg' e=>n9 (a7 ?_),by omega,#[none,none,rfl],λp Z g' hp e sh=>?_,λg' e=>?_]
 ·rw[show fs.map (λp=>D.int (p.1:Nat))=b0 (nums fs) by simp[b0,nums]];exact e.at b8
 ·let#[z1,z2,rfl]:=sh;refine j9 (M3 #[rfl,e,iV ?_]);left;have C':=(C.at e1).at e;have hv:=p8 (f:=λx:Int×Int=>D.tup [.int x.1,.int x.2]) inc hp;refine u3 C'.o rfl ?_;show m8 C'.c rfl hv ?_;show u3 C'.o rfl ?_;show m8 C'.c rfl hv ?_;left;exact#[rfl,e,_,_,rfl]
 ·rw[O7];exact h _ _ ((e1.trans e).trans (Ex.snoc _ _)) (e1.trans e).len b8
def UE(hT:TC T)(C:fT g m hd cl lc lf hs fs)(inc:fh (nums hs)){x}(hn:(n,x)∈hs)(h:Q x.d g):b7 T (k+3) 222 [.ref m,.int (n:Nat)] g Q E:=by
 refine call_of hT.wC rfl ?_;delta T2;show i0 C.o rfl rfl ?_;show call_of hT.wG rfl ?_;delta F9;show K0 (k:=k) hT.nf ?_;show u3 C.o rfl ?_;show J6 #[(v8 (fZ hs) (kC n)).isSome,.inl #[_,_,kC n,rfl,C.h,rfl,rfl],?_];rw[show v8 (fZ hs) (kC n)=some x.d from p8 (f:=a9.d) inc hn];show ei rfl ?_;show u3 C.o rfl ?_;left;exact m8 C.h rfl (p8 (f:=a9.d) inc hn) h
def Y6(hT:TC T)(hw:w≠.dR)(ha:g[a]?=some (.lst ((d8 hs).map a9.d)))(hz:hs.length<=9)(h:numsOf hs (cu w) v≠[]->∀g',Ex g g'->Q .br g')(hn:numsOf hs (cu w) v=[]->∀g',Ex g g'->E #["NoDie"] g'):b7 T (k+4) 75 [.ref a,.str w.s,.int v] g Q E:=by
 refine call_of hT.RY rfl ?_;delta EC;show Q7 (k:=k) hT.nf hT.iZ hT.pE ha (by simp[d8];omega) λg1 b e1 _ hb=>?_;refine Ym (a7 hb) ?_;have:(b0 (iG (d8 hs) w v)).isEmpty=(numsOf hs (cu w) v).isEmpty:=by
  rw[<- VA hw];cases iG (d8 hs) w v<;>rfl
 rw[this];cases hq:numsOf hs (cu w) v with
 |nil =>
  refine eM rfl ?_;left;exact hn hq _ e1
 |cons x l =>
  refine ei rfl ?_;exact h (by rw[hq];simp) _ e1
def EO(hT:TC T)(hw:w≠.dR)(h:Q (.int (cu w)) g):b7 T (k+2) 19 [.str w.s] g Q E:=by
 cases w with
 |dR=>exact absurd rfl hw
 |lower=>exact F7 (k:=k) hT.iZ #[] (λ_=>h) (λz=>absurd z #[]) (λz=>absurd rfl z)
 |upper=>exact F7 (k:=k) hT.iZ #[] (λz=>absurd z #[]) (λ_=>h) (λ_ z=>absurd rfl z)
def Lo(hT:TC T)(hw:w≠.dR)(h:Q .br g):b7 T (k+1) 40 [.str w.s] g Q E:=by
 cases w with
 |dR=>exact absurd rfl hw
 |lower=>exact L5 hT.iZ.2 #[] (λ_=>h) (λz=>absurd rfl z)
 |upper=>exact L5 hT.iZ.2 #[] (λ_=>h) (λ_ z=>absurd rfl z)
def LY(hT:TC T)(hw:w≠.dR)(C:fT g m hd cl lc lf hs fs)(inc:fh (nums hs))(hz:hs.length<=50)(h:∀g' r,Ex g g'->g.length<=r->g'[r]?=some (.lst (b0 (numsOf hs (cu w) v)))->Q (.ref r) g'):b7 T (k+3) 211 [.ref m,.str w.s,.int v] g Q E:=by
 refine call_of hT.CS rfl ?_;delta P1;show EO (k:=k) hT hw ?_;show L4 (α:=Nat×a9) (a8 T _) (iH (a8 T _) ?_);show i0 C.o rfl rfl ?_;show Z1 (k:=k+1) hT C inc hz ?_;have e1:=Ex.snoc g (O.lst (b0 (nums hs)));refine#[_,_,rfl,a7 b8,hs,λp=>.int (p.1:Nat),λZ=>∃z3 z4,Z=[some (.int v),some (.int (cu w)),some (.ref m),z3,z4],λp=>decide (H9 (cu w) p.2=v),λp=>.int (p.1:Nat),λg' e=>n9 (a7 ?_),by omega,#[none,none,rfl],λp Z g' hp e sh=>?_,λg' e=>?_]
 ·rw[show hs.map (λp=>D.int (p.1:Nat))=b0 (nums hs) by simp[b0,nums]];exact e.at b8
 ·let#[z3,z4,rfl]:=sh;refine j9 ?_;left;have C':=(C.at e1).at e;refine u3 C'.o rfl ?_;show m8 C'.h rfl (p8 (f:=a9.d) inc hp) ?_;show A9 (uA (J' w) p.2) ?_;show#[rfl,e,?_];refine if2 (λ_=>?_) (λ_=>?_)
  ·left;exact#[rfl,e,_,_,rfl]
  ·exact#[_,_,rfl]
 ·refine h _ _ ((e1.trans e).trans (Ex.snoc _ _)) (e1.trans e).len ?_;rw[numsOf,b0,aX];exact b8
end
def Tc{a b c d}:cut [a,b,c,d,e] none (some 0)=[]:=rfl
def Td{a b c d}:cut [a,b,c,d,e] (some 1) none=[b,c,d,e]:=rfl
def Te{a b c d}:cut [a,b,c,d,e] none (some 2)=[a,b]:=rfl
def b99{a b c d}:cut [a,b,c,d,e] (some 3) none=[d,e]:=rfl
def Gp:∀{a b:List Int},a.Nodup->(∀x∈a,x∈b)->a.length<=b.length
 |[],b,_,_=>bO _
 |x::a,b,nd,h=>by
  rw[cP] at nd;have h1:=h x #[_];have:=Gp (b:=b.erase x) nd.2 λy hy=>(AN (λz=>nd.1 (by rw[<- z];exact hy))).mpr (h y (by simp[hy]));rw[List.length_erase_of_mem h1] at this;have:=List.length_pos_of_mem h1;rw[List.length_cons];omega
structure pK(ds:List Int)(F:Int):Prop where
 pos:1<=F
 no:F∉ds
 all:∀i,1<=i->i<F->i∈ds
def pK.le{F}(h:pK ds F):F<=ds.length+1:=by
 have:=Gp (a:=(List.range (F-1).toNat).map λi:Nat=>(i:Int)+1) (b:=ds) (cF.mpr (lH.imp λz e=>z ())) λx hx=>by
  let#[i,hi,rfl]:=ao.mp hx;have:=bj.mp hi;exact h.all _ () ()
 simp at this;omega
def Mn(ds:List Int):∃F,pK ds F:=by
 have go:∀n:Nat,(∃F,pK ds F)\/∀i:Int,1<=i->i<=n->i∈ds:=λn=>by
  induction n with
  |zero=>exact .inr λi h1 h2=>by omega
  |succ n ih =>
   rcases ih with h|h
   ·exact .inl h
   ·by_cases hn:((n:Int)+1)∈ds
    ·exact .inr λi h1 h2=>by
      by_cases e:i=n+1
      ·rw[e];exact hn
      ·exact h i h1 ()
    ·exact .inl #[n+1,by omega,hn,λi h1 h2=>h i h1 ()]
 rcases go (ds.length+1) with h|h
 ·exact h
 ·have:=Gp (a:=(List.range (ds.length+1)).map λi:Nat=>(i:Int)+1) (b:=ds) (cF.mpr (lH.imp λz e=>z ())) λx hx=>by
   let#[i,hi,rfl]:=ao.mp hx;have:=bj.mp hi;exact h _ () ()
  simp at this;omega
abbrev q9(hs:Hs)(f:Int):List Int:=(d8 hs).map (H9 f)
def N6{v}:v∈q9 hs f↔numsOf hs f v≠[]:=by
 unfold q9 d8 numsOf;rw[aX];constructor
 ·intro h z;let#[p,hp,e]:=ao.mp h;rw[Hc,iz] at z;exact z p hp (aE e)
 ·intro h;cases hf:hs.filter λp=>decide (H9 f p.2=v) with
  |nil=>rw[hf] at h;exact absurd rfl h
  |cons p r =>
   have hp:p∈hs.filter λp=>decide (H9 f p.2=v):=by rw[hf];simp
   let#[h1,h2]:=aS.mp hp;exact ao.mpr #[p,h1,aM h2]
abbrev x8(hs:Hs)(f v u:Int):Str:=if numsOf hs f v=[]\/numsOf hs f u=[] then "NoDie" else if v=u then "SameOne" else ""
abbrev N9(hs:Hs)(f v:Int)(ns:List Int):Bool:=decide ((ST.f9 [] ns).length≠ns.length)||(decide (ns.length=0)||decide (ns.length=(numsOf hs f v).length))
abbrev A7(hs:Hs)(f v:Int)(ns:List Int):Str:=if numsOf hs f v=[] then "NoDie" else if(ns.all λn=>decide (n∈(numsOf hs f v).map λn:Nat=>(n:Int)))=true then(if N9 hs f v ns=true then "BadList" else "") else "NoCoin"
section
variable{T:Nat->Option aR}{d:Nat}{c lc lf:Nat}
def U8{i}(ha:L1 g y=some (ms.map .int))(h:kb (decide (i∈ms))):nQ g (.int i) y kb:=by
 refine#[_,.inr #[_,ms.map .int,.int i,ha,?_,rfl,?_,rfl,rfl],?_]
 ·exact R0 ms
 ·exact lay_ints ms
 ·have:((ms.map PyData.int).any λq=>PyData.eqv q (.int i))=decide (i∈ms):=by
   rw[vg,bf,bw,cK];constructor
   ·rintro⟨x,hx,e⟩;have:x=i:=by simpa[PyData.eqv] using e
    rw[<- this];exact hx
   ·intro hx;exact#[i,hx,by simp[PyData.eqv]]
  rw[this];exact h
def aR3(hT:TC T){c:a9}(h:Q (c.re (cu w) v).d g):b7 T (k+1) 177 [c.d,.int (cu w),.int v] g Q E:=by
 refine call_of hT.Dj rfl ?_;have h0:w=.lower\/cu w=2:=by cases w<;>simp[cu]
 rcases h0 with rfl|h2
 ·dsimp[Z3,b9,List.replicate,cu,a9.d];left;rw[Tc];refine xg #[_] ?_;left;rw[show(0:Int)+1=1 by rfl,Td];refine xg #[_] ?_;exact h
 ·rw[h2] at h ⊢;dsimp[Z3,b9,List.replicate,a9.d];left;rw[Te];refine xg #[_] ?_;left;rw[show(2:Int)+1=3 by rfl,b99];refine xg #[_] ?_;exact h
def Mp(hT:TC T)(hw:w≠.dR)(C:fT g m hd cl lc lf hs fs)(inc:fh (nums hs))(hz:hs.length<=50){ns}(ha:g[a]?=some (.lst (b0 ns)))(hn:∀n∈ns,n∈nums hs)(n1:a≠hd)(n2:m≠hd)(n3:cl≠hd)(h:∀g',g'.length=g.length->(∀i,i≠hd->g'[i]?=g[i]?)->fT g' m hd cl lc lf (k9 hs ns (cu w) v) fs->Q .br g'):b7 T (k+3) 212 [.ref m,.str w.s,.ref a,.int v] g Q E:=by
 refine call_of hT.CQ rfl ?_;delta T1;show EO (k:=k) hT hw ?_;show K4 (a8 T _) (iH (a8 T _) ?_);show#[a,_,rfl,a7 ha,b0 ns,λi Z g'=>(∃z5,Z=[some (.ref m),some (.str w.s),some (.ref a),some (.int v),some (.int (cu w)),z5])/\g'.length=g.length/\(∀i,i≠hd->g'[i]?=g[i]?)/\fT g' m hd cl lc lf (k9 hs (ns.take i) (cu w) v) fs,λi Z g' q=>n9 (a7 (by rw[q.2.2.1 a n1];exact ha)),#[#[none,rfl],rfl,λ_ _=>rfl,?_],λi x Z g' hx q=>?_,λZ g' q=>?_]
 ·have:k9 hs (ns.take 0) (cu w) v=hs:=by
   conv=>rhs;rw[<- jh hs]
   rfl
  rw[this];exact C
 ·let#[#[z5,rfl],l1,o1,C1]:=q;rw[b0,ah,aa] at hx;let#[n,hx,rfl]:=hx;refine j9 ?_;have hm:=hn n (aJ hx);have lN:n∈nums (k9 hs (ns.take i) (cu w) v):=by rw[F0];exact hm
  have jI:fh (nums (k9 hs (ns.take i) (cu w) v)):=by rw[F0];exact inc
  let#[p,hp,nU]:=ao.mp lN;have iu:(n,p.2)∈k9 hs (ns.take i) (cu w) v:=by rw[<- nU];exact hp
  show u3 C1.o rfl ?_;show m8 C1.h rfl (p8 (f:=a9.d) jI iu) ?_;show aR3 (k:=k+1) hT ?_;show u3 C1.o rfl ?_;show S1 C1.h rfl (by simp[fZ,k9];omega) ?_;rw[zC lN,NX inc iu];refine#[#[_,rfl],by simpa using l1,λi hi=>by rw[aI (aZ hi)];exact o1 i hi,c7 C1.o (aZ n2),?_,c7 C1.c (aZ n3)];rw[show ns.take (i+1)=ns.take i++[n] by rw[bh,hx];rfl];exact get_set C1.h
 ·let#[#[z5,rfl],l1,o1,C1]:=q;rw[b0,ai,bu] at C1;exact h g' l1 o1 C1
def FJ(hT:TC T)(hw:w≠.dR)(C:fT g m hd cl lc lf hs fs)(O1:ij hs)(n2:m≠hd)(n3:cl≠hd)(hn:x8 hs (cu w) v u≠""->∀g',Ex g g'->E #[x8 hs (cu w) v u] g')(h:x8 hs (cu w) v u=""->∀g' r,Gr hd g g'->g.length<=r->g'[r]?=some (.lst (b0 (numsOf hs (cu w) u)))->fT g' m hd cl lc lf (k9 hs (numsOf hs (cu w) u) (cu w) v) fs->Q (.ref r) g'):b7 T (k+5) 219 [.ref m,.str w.s,.int v,.int u] g Q E:=by
 have hz:=O1.len;refine call_of hT.wF rfl ?_;delta O5;show Lo (k:=k+3) hT hw ?_;show i0 C.o rfl rfl ?_;show z8 (k:=k+2) hT C O1.inc () λg1 r1 e1 _ nS=>?_;show Y6 (k:=k) hT hw nS hz (λd1 g2 e2=>?_) (λd1 g2 e2=>?_)
 ·have jL:=e1.trans e2;have C2:=C.at jL;show i0 C2.o rfl rfl ?_;show z8 (k:=k+2) hT C2 O1.inc () λg3 r3 e3 _ pk=>?_;show Y6 (k:=k) hT hw pk hz (λd2 g4 e4=>?_) (λd2 g4 e4=>?_)
  ·have qJ:=jL.trans (e3.trans e4);have C4:=C.at qJ;show if2 (λrX=>?_) (λrX=>?_)
   ·have:x8 hs (cu w) v u="SameOne":=by unfold x8;rw[az (λz=>z.elim d1 d2),aH rX]
    rw[this] at hn;left;exact hn #[] _ qJ
   ·have this:x8 hs (cu w) v u="":=by unfold x8;rw[az (λz=>z.elim d1 d2),az rX]
    show i0 C4.o rfl rfl ?_;show LY (k:=k+1) hT hw C4 O1.inc () λg5 r5 e5 l5 rZ=>?_;have qI:=qJ.trans e5;have C5:=C.at qI;have lh:=i8 C4.h;show i0 C5.o rfl rfl ?_;show Mp (k:=k+1) hT hw C5 O1.inc () rZ (λn hn=>Z0 hn) () n2 n3 λg6 l6 o6 C6=>?_;show h this g6 r5 #[by have:=qI.len;omega,λi hi hl=>by rw[o6 i hi];exact qI.old i hl] (by have:=qJ.len;omega) (by rw[o6 r5 ()];exact rZ) C6
  ·have:x8 hs (cu w) v u="NoDie":=by unfold x8;rw[aH (.inr d2)]
   rw[this] at hn;exact hn #[] _ (jL.trans (e3.trans e4))
 ·have:x8 hs (cu w) v u="NoDie":=by unfold x8;rw[aH (.inl d1)]
  rw[this] at hn;exact hn #[] _ (e1.trans e2)
def aG7(hT:TC T){F}(hF:pK ds F)(ha:g[a]?=some (.lst (ds.map .int)))(h:Q (.int F) g):b7 T (k+1) 194 [.ref a] g Q E:=by
 refine call_of hT.Dh rfl ?_;refine Uq (λj Z g'=>g'=g/\∃i:Int,Z=[some (.ref a),some (.int i)]/\1<=i/\i<=F/\j=(F-i).toNat) _ #[rfl,1,rfl,by decide,hF.pos,rfl] (λj Z g' q=>?_) (a8 T _);let#[rfl,i,rfl,i1,i2,rfl]:=q;show qN (U8 (a7 ha) ?_);show if2 (λhi=>?_) (λhi=>?_)
 ·have:i≠F:=λz=>hF.no (z▸hi);refine bF8 rfl ?_;refine FC ?_;exact#[(F-(i+1)).toNat,by omega,rfl,i+1,rfl,by omega,by omega,rfl]
 ·have e:i=F:=by
   refine pZ λz=>hi (hF.all i i1 ())
  subst e;left;exact h
def UK(hT:TC T)(hw:w≠.dR)(O1:ij hs)(ha:g[a]?=some (.lst ((d8 hs).map a9.d)))(h:Q (.ref g.length) (g++[.lst ((m5 (q9 hs (cu w))).map .int)])):b7 T (k+7) 20 [.ref a,.str w.s] g Q E:=by
 have hz:(d8 hs).length<=9:=by simpa[d8] using O1.len
 unfold q9 at h;generalize nY:d8 hs=cs at *;have hg:cs.all j5=true:=by rw[<- nY];exact Lp O1
 refine call_of hT.CZ rfl ?_;delta xI;show V5 (k:=k) hT.nf hT.h2 hT.mq hT.pG ha () (λz=>by omega) (λ_ z=>by rw[hg] at z;cases z) λ_ _=>?_;show EO (k:=k+4) hT hw ?_;show MZ (a8 T _) (iH (a8 T _) ?_);show#[a,_,rfl,a7 ha,cs.map a9.d,λi ys Z g'=>∃z y,ys=(cs.take i).map (H9 (cu w))/\Z=[some (.int (cu w)),z,y]/\g'=g,by simp;omega,λi ys Z g' p=>?_,#[none,none,by simp,rfl,rfl],λi c ys Z g' hx p=>?_,λys Z g' p=>?_]
 ·let#[z,y,rfl,rfl,rfl]:=p;exact#[n9 (a7 ha),by simp;omega]
 ·let#[z,y,rfl,rfl,rfl]:=p;rw[ah,aa] at hx;let#[c,hc,rfl]:=hx;show A9 (uA (J' w) c) ?_;refine#[_,rfl,_,_,?_,rfl,rfl];rw[bh,hc];simp
 ·let#[z,y,rfl,rfl,rfl]:=p;rw[ai,bu];exact h
def WL{F}(h:pK ds F):pK (m5 ds) F:=by
 have e:∀x,x∈m5 ds↔x∈ds:=λx=>by rw[(K5 ds).mem_iff,ST.Z2];simp
 exact#[h.pos,λz=>h.no ((e _).mp z),λi h1 h2=>(e _).mpr (h.all i h1 h2)]
def OM(hT:TC T)(hw:w≠.dR)(C:fT g m hd cl lc lf hs fs)(O1:ij hs)(n2:m≠hd)(n3:cl≠hd)(ha:g[a]?=some (.lst (ns.map .int)))(hl:ns.length<=50)(n1:a≠hd){F}(hF:pK (q9 hs (cu w)) F)(hn:A7 hs (cu w) v ns≠""->∀g',Ex g g'->E #[A7 hs (cu w) v ns] g')(h:A7 hs (cu w) v ns=""->∀g',Gr hd g g'->fT g' m hd cl lc lf (k9 hs (ns.map Int.toNat) (cu w) F) fs->Q (.int F) g'):b7 T (k+8) 220 [.ref m,.str w.s,.int v,.ref a] g Q E:=by
 have hz:=O1.len;refine call_of hT.wD rfl ?_;delta M5;show Lo (k:=k+6) hT hw ?_;show i0 C.o rfl rfl ?_;show z8 (k:=k+5) hT C O1.inc () λg1 r1 e1 _ nS=>?_;show Y6 (k:=k+3) hT hw nS hz (λd1 g2 e2=>?_) (λd1 g2 e2=>?_)
 ·have jL:=e1.trans e2;have C2:=C.at jL;show i0 C2.o rfl rfl ?_;show LY (k:=k+4) hT hw C2 O1.inc () λg3 r3 e3 l3 pk=>?_;have jb:=jL.trans e3;have C3:=C.at jb;have a3:=jb.at ha;rw[L7] at pk;refine K4 (a8 T _) (iH (a8 T _) ?_);show#[a,_,rfl,a7 a3,ns.map .int,λi Z g'=>g'=g3/\(∃z5,Z=[some (.ref m),some (.str w.s),some (.int v),some (.ref a),some (.ref r3),z5,none])/\((ns.take i).all λn=>decide (n∈(numsOf hs (cu w) v).map λn:Nat=>(n:Int)))=true,λi Z g' q=>n9 (a7 (by rw[q.1];exact a3)),#[rfl,#[none,rfl],by simp],λi x Z g' hx q=>?_,λZ g' q=>?_]
  ·let#[rfl,#[z5,rfl],q]:=q;rw[ah,aa] at hx;let#[n,hx,rfl]:=hx;refine j9 ?_;show K0 (k:=k+6) hT.nf ?_;show J6 (U8 (a7 pk) ?_);left;by_cases hm:n∈(numsOf hs (cu w) v).map λn:Nat=>(n:Int)
   ·refine ei (by rw[aE hm];rfl) ?_;refine#[rfl,#[_,rfl],?_];rw[bh,hx];simp only[Option.toList_some,List.all_append,q,List.all_cons,List.all_nil,decide_eq_true hm]
    rfl
   ·refine eM (by rw[ax hm];rfl) ?_;left;have:A7 hs (cu w) v ns="NoCoin":=by
     unfold A7;rw[az d1,az];intro z;exact hm (aM (bt.mp z n (aJ hx)))
    rw[this] at hn;exact hn #[] _ jb
  ·let#[rfl,#[z5,rfl],q]:=q;rw[ai,bu] at q;show Kc (a7 a3) () ?_;left;have bad:N9 hs (cu w) v ns=true->A7 hs (cu w) v ns="BadList":=λz=>by unfold A7;rw[az d1,aH q,aH z]
   have good:N9 hs (cu w) v ns=false->A7 hs (cu w) v ns="":=λz=>by unfold A7;rw[az d1,aH q,az (by rw[z];decide)]
   have lm:(ns.map D.int).length=ns.length:=by simp
   have lr:(((numsOf hs (cu w) v).map λn:Nat=>(n:Int)).map D.int).length=(numsOf hs (cu w) v).length:=by simp
   rw[lm];by_cases c1:(ST.f9 [] ns).length=ns.length
   ·refine ei (by rw[aE (show((ST.f9 [] ns).length:Int)=ns.length by omega)];rfl) ?_;left
    try rw[lr]
    refine qN (U8 (ms:=[0,((numsOf hs (cu w) v).length:Int)]) rfl ?_);left;by_cases c2:ns.length=0\/ns.length=(numsOf hs (cu w) v).length
    ·refine eM (aE (by rw[aF,ba];omega)) ?_;left;have b1:N9 hs (cu w) v ns=true:=by
      unfold N9;rcases c2 with z|z
      ·simp[z]
      ·simp[z]
     rw[bad b1] at hn;exact hn #[] _ jb
    ·refine ei (ax (by rw[aF,ba];omega)) ?_;have b1:N9 hs (cu w) v ns=false:=by
      unfold N9;rw[ax (),ax (),ax ()]
      rfl
     show i0 C3.o rfl rfl ?_;show z8 (k:=k+5) hT C3 O1.inc () λg4 r4 e4 _ vT=>?_;show UK (k:=k) hT hw O1 vT ?_;left;have e5:=e4.trans (Ex.snoc g4 (O.lst ((m5 (q9 hs (cu w))).map .int)));refine aG7 (k:=k+6) hT (WL hF) b8 ?_;have qI:=jb.trans e5;have C5:=C.at qI;show i0 C5.o rfl rfl ?_;left;have vV:∀n∈ns,∃j∈numsOf hs (cu w) v,n=(j:Nat):=λn hx=>by
      let#[j,hj,e]:=ao.mp (aM (bt.mp q n hx));exact#[j,hj,e.symm]
     have en:ns.map D.int=b0 (ns.map Int.toNat):=by
      rw[b0,aX];refine bP λn hx=>?_;let#[j,_,rfl]:=vV n hx;simp
     have a5:=e5.at a3;rw[en] at a5;refine Mp (k:=k+4) hT hw C5 O1.inc () a5 (λn hx=>?_) n1 n2 n3 λg6 l6 o6 C6=>?_
     ·let#[i,hi,rfl]:=ao.mp hx;let#[j,hj,rfl]:=vV i hi;exact Z0 (by simpa using hj)
     ·left;exact h (good b1) g6 #[by have:=qI.len;omega,λi hi hl=>by rw[o6 i hi];exact qI.old i hl] C6
   ·refine eM (by rw[ax (show ¬((ST.f9 [] ns).length:Int)=ns.length by omega)];rfl) ?_;left;have b1:N9 hs (cu w) v ns=true:=by
     unfold N9;rw[aE c1]
     rfl
    rw[bad b1] at hn;exact hn #[] _ jb
 ·have:A7 hs (cu w) v ns="NoDie":=by unfold A7;rw[aH d1]
  rw[this] at hn;exact hn #[] _ (e1.trans e2)
def aC5(hT:TC T)(C:fT g m hd cl lc lf hs fs){c}(hc:j5 c=true)(hz:hs.length<9)(dO:∀n∈nums hs,n<=lc)(n2:m≠hd)(n3:cl≠hd)(n4:cl≠m)(h:∀g',g'.length=g.length->(∀i,i≠hd->i≠m->g'[i]?=g[i]?)->fT g' m hd cl (lc+1:Nat) lf (hs++[(lc+1,c)]) fs->Q (.int (lc+1:Nat)) g'):b7 T (k+6) 214 [.ref m,c.d] g Q E:=by
 refine call_of hT.sy rfl ?_;delta P6;show call_of hT.pG.2 rfl ?_;delta S3;show Fm hT.nf hT.h2 hT.mq ?_;rw[hc];show u3 C.o rfl ?_;refine GB C.h ?_;show if2 (λz=>?_) (λ_=>?_)
 ·rw[fZ,ai] at z;omega
 refine OO ?_;show#[m,_,_,_,rfl,C.o,by simp,rfl,?_];refine FC ?_;refine#[_,C.o,by simp,?_];have e3:(O.ins "Cabinet" (m7 "last_coin" (.int ((lc:Nat)+1)) [("held",.ref hd),("claims",.ref cl),("last_coin",.int (lc:Nat)),("last_fact",.int (lf:Nat))]))=gW hd cl (lc+1:Nat) (lf:Nat):=rfl;rw[e3];have qt:=get_set C.o (o':=gW hd cl (lc+1:Nat) (lf:Nat));show u3 qt rfl ?_;show u3 qt rfl ?_;left;have Ic:=c7 C.h n2 (o':=gW hd cl (lc+1:Nat) (lf:Nat));refine S1 Ic rfl (by simp[fZ];omega) ?_;rw[NA (n:=lc+1) (λz=>by have:=dO _ z;omega)];left;have tY:=c7 qt (aZ n2) (o':=O.cg (fZ (hs++[(lc+1,c)])));refine u3 tY rfl ?_;show h _ #[_] (λi h1 h2=>by rw[aI (aZ h1),aI (aZ h2)]) #[tY,get_set Ic,c7 (c7 C.c (aZ n4)) (aZ n3)]
end
abbrev EG:aR:=#[2,2,(.seq (.ifs (.gF (cN .Eq (cB .len aL) (aT 0)) (cN .Eq (.call 4 (cY aA (aT 10))) (aT 4))) (.seq (.ret (.call 36 (cY aA (bN (.bin .Add) (aT 3) (cB .len aL))))) .pass) .pass) (.seq (.ret (bA aL (.call 4 (cY aA (cB .len aL))))) .pass))]
abbrev Ea:aR:=#[0,0,(.seq (.ret (.oo (.cons (cv "coins") (IF (.prim .Y5 .nil) (cv "facts") (.prim .Y5 .nil) (cv "given") (aT 0) (cv "learnt") (aT 0))))) .pass)]
abbrev Eo:aR:=#[1,1,(.seq (.ret (.comp [0] 3 (.one 2) (.eZ (cB .eW (cB .list (bA aA (cv "coins"))))) .no (bA (bA aA (cv "coins")) aV))) .pass)]
abbrev GG:aR:=#[2,2,(.seq (.ifs (.de (.eB (.call 13 (cX aL)))) (.seq (.ret (bN .tup (cv "BadCoin") (.lit .br))) .pass) .pass) (.seq (.ifs (cN .Gt (cB .len (bA aA (cv "coins"))) (aT 8)) (.seq (.ret (bN .tup (cv "Full") (.lit .br))) .pass) .pass) (.seq (.cS aA (cv "given") (bN (.bin .Add) (bA aA (cv "given")) (aT 1))) (.seq (.cS (bA aA (cv "coins")) (bA aA (cv "given")) aL) (.seq (.ret (bN .tup (cv "") (bA aA (cv "given")))) .pass)))))]
abbrev EH:aR:=#[3,4,(.seq (.set 3 (cB .list aA)) (.seq (.cS bx (.ite (cN .Eq aL (cv "lower")) (aT 0) (aT 2)) aV) (.seq (.ret (.prim .tup (qb (bA bx (aT 0)) (bA bx (aT 1)) (bA bx (aT 2)) (bA bx (aT 3)) (bA bx (aT 4))))) .pass)))]
abbrev DZ:aR:=#[3,4,(.seq (.set 3 (.ite (cN .Eq aL (cv "lower")) (aT 0) (aT 2))) (.seq (.ret (.comp [3,0,2] 5 (.one 4) (.eZ (cB .eW (cB .list (bA aA (cv "coins"))))) (cN .Eq (bA (bA (bA aL (cv "coins")) dw) aA) aV) dw)) .pass))]
abbrev Am:aR:=#[4,6,(.seq (.ifs (cN .NotIn aL (bN .lst (cv "lower") (cv "upper"))) (.seq (.ret (bN .tup (cv "BadSide") (.lit .br))) .pass) .pass) (.seq (.set 4 (.call 201 (fj aA aL bx))) (.seq (.ifs (.gF (cN .Eq (cB .len dw) (aT 0)) (cN .Eq (cB .len (.call 201 (fj aA aL aV))) (aT 0))) (.seq (.ret (bN .tup (cv "NoDie") (.lit .br))) .pass) .pass) (.seq (.ifs (cN .Eq aV bx) (.seq (.ret (bN .tup (cv "SameOne") (.lit .br))) .pass) .pass) (.seq (.fg (.one 5) (.eZ dw) (.seq (.cS (bA aA (cv "coins")) fz (.call 200 (fj (bA (bA aA (cv "coins")) fz) aL aV))) .pass)) (.seq (.ret (bN .tup (cv "") dw)) .pass))))))]
abbrev An:aR:=#[4,7,(.seq (.ifs (cN .NotIn aL (bN .lst (cv "lower") (cv "upper"))) (.seq (.ret (bN .tup (cv "BadSide") (.lit .br))) .pass) .pass) (.seq (.set 4 (.call 201 (fj aA aL aV))) (.seq (.ifs (cN .Eq (cB .len dw) (aT 0)) (.seq (.ret (bN .tup (cv "NoDie") (.lit .br))) .pass) .pass) (.seq (.ifs (.de (.eB (cB .all (.comp [4] 3 (.one 2) (.eZ bx) .no (bN (.cmp .In) aV aA))))) (.seq (.ret (bN .tup (cv "NoCoin") (.lit .br))) .pass) .pass) (.seq (.ifs (.gF (cN .Eq (cB .len bx) (aT 0)) (.gF (cN .Lt (cB .nB bx) (cB .len bx)) (cN .Eq (cB .len bx) (cB .len dw)))) (.seq (.ret (bN .tup (cv "BadList") (.lit .br))) .pass) .pass) (.seq (.set 6 (bA (.comp [0,1] 4 (.one 3) (.jo (aT 1) (aT 12)) (cN .Eq (cB .len (.call 201 (fj aA aL bx))) (aT 0)) bx) (aT 0))) (.seq (.fg (.one 5) (.eZ bx) (.seq (.cS (bA aA (cv "coins")) fz (.call 200 (fj (bA (bA aA (cv "coins")) fz) aL gy))) .pass)) (.seq (.ret (bN .tup (cv "") gy)) .pass))))))))]
abbrev zA:aR:=#[3,4,(.seq (.set 3 (.ite (cN .Eq aV (cv "lower")) (aT 0) (aT 2))) (.seq (.ret (.call 37 (cY aA (cB .sset (.comp [3] 3 (.one 2) (.eZ (.call 196 (cX aL))) .no (bA aV aA)))))) .pass))]
abbrev P4(qc qf gv lr:Nat):List (Key×D):=[(.inr "coins",.ref qc),(.inr "facts",.ref qf),(.inr "given",.int (gv:Nat)),(.inr "learnt",.int (lr:Nat))]
def L9:v8 (P4 qc qf gv lr) (.inr "coins")=some (.ref qc):=rfl
def pT:v8 (P4 qc qf gv lr) (.inr "facts")=some (.ref qf):=rfl
def Ef:v8 (P4 qc qf gv lr) (.inr "given")=some (.int (gv:Nat)):=rfl
structure hX(g:G)(q qc qf gv lr:Nat)(hs:Hs)(fs:Fs):Prop where
 b:g[q]?=some (.cg (P4 qc qf gv lr))
 c:g[qc]?=some (.cg (fZ hs))
 f:g[qf]?=some (.cg (gU fs))
def hX.at{g g'}{q qc qf gv lr}{hs}{fs}(B:hX g q qc qf gv lr hs fs)(e:Ex g g'):hX g' q qc qf gv lr hs fs:=#[e.at B.b,e.at B.c,e.at B.f]
abbrev fX(x:Str):Int:=if x="lower" then 0 else 2
def Jp(x:Str):fX x=0\/fX x=2:=by unfold fX;split<;>simp
def uQ(hw:w≠.dR):fX w.s=cu w:=by
 cases w with
 |dR=>rfl
 |lower=>rfl
 |upper=>rfl
def n6.gr{d x}(D0:n6 g d)(F:Gr x g g')(h:d<x):n6 g' d:=by
 let#[s,p,b,r,xs,e1,e2,hs,q]:=D0.ex;exact#[s,p,b,r,xs,F.at () e1,F.at () e2,hs,q]
structure TD(T:Nat->Option aR):Prop where
 h4:T 4=some P9
 h5:T 5=some sV
 Sb:T 36=some GH
 Sa:T 37=some EG
 h8:T 8=some xS
 yY:T 13=some U3
 Dg:T 195=some Ea
 Df:T 196=some Eo
 De:T 197=some GG
 CY:T 200=some EH
 CW:T 201=some DZ
 wI:T 202=some Am
 wH:T 203=some An
section
variable{T:Nat->Option aR}{d:Nat}{c:Nat}
def Jy(hT:TD T){j}(hj:0<=j/\j<=1000)(D0:n6 g d)(h:∀(v:Int) g',n6 g' d->Gr d g g'->Q (.int v) g'):b7 T (k+3) 36 [.ref d,.int j] g Q E:=by
 refine call_of hT.Sb rfl ?_;delta GH;show j7 (k:=k+1) hT.h4 D0 ∅ ∅ λr g1 _ _ D1 G1=>?_;show if2 (λ_=>?_) (λ_=>?_)
 ·left;exact FA (k:=k) hT.h4 hT.h5 D1 λr g2 D2 G2=>h r g2 D2 (G1.trans G2)
 ·show j7 (k:=k+1) hT.h4 D1 () () λr g2 _ _ D2 G2=>?_;left;exact h _ _ D2 (G1.trans G2)
def Gq(hT:TD T)(hi:g[i]?=some (.lst (ns.map .int)))(hd:d<i)(hz:ns.length<=100)(D0:n6 g d)(h:∀(v:Int) g',n6 g' d->Gr d g g'->Q (.int v) g'):b7 T (k+4) 37 [.ref d,.ref i] g Q E:=by
 refine call_of hT.Sa rfl ?_;delta EG;left;rw[ai];refine if2 (λ_=>?_) (λc1=>?_)
 ·refine eM rfl ?_;show Jy (k:=k) hT (by rw[ai];omega) D0 λv g2 D2 G2=>?_;exact h v g2 D2 G2
 show j7 hT.h4 D0 ∅ ∅ λr g1 _ _ D1 G1=>?_;have Ri:=G1.at () hi;show if2 (λ_=>?_) (λ_=>?_)
 ·show Jy (k:=k) hT (by rw[ai];omega) D1 λv g2 D2 G2=>?_;exact h v g2 D2 (G1.trans G2)
 ·left;rw[ai];refine j7 hT.h4 D1 () () λr2 g2 r0 r1 D2 G2=>?_;let#[y,hy,hm]:=F8 (l:=ns.map D.int) r0 (by rw[ai];exact r1);let#[v,_,rfl]:=ao.mp hm;refine E5 (a7 (G2.at () Ri)) hy ?_;exact h v g2 D2 (G1.trans G2)
def zS(hs:Hs):((fZ hs).map (·.1)).map kD=b0 (nums hs):=by
 simp[fZ,nums,b0,kD]
def ER(fs:Fs):((gU fs).map (·.1)).map kD=b0 (nums fs):=by
 simp[gU,nums,b0,kD]
def G9(ha:g[a]?=some (.lst (b0 l)))(inc:fh l)(hz:l.length<=50)(h:Q (.ref g.length) (g++[.lst (b0 l)])):cL .eW [.ref a] g Q:=by
 rw[L7] at ha h;refine bA7 (a7 ha) (by simp;omega) ?_;rw[V' inc];exact h
def X2(hT:TD T)(B:hX g q qc qf gv lr hs fs)(inc:fh (nums hs))(hz:hs.length<=50)(h:∀g' r,Ex g g'->g.length<=r->g'[r]?=some (.lst ((d8 hs).map a9.d))->Q (.ref r) g'):b7 T (k+1) 196 [.ref q] g Q E:=by
 refine call_of hT.Df rfl ?_;delta Eo;show L4 (α:=Nat×a9) (a8 T _) (iH (a8 T _) ?_);show m8 B.b rfl L9 ?_;show tm B.c (by simp[fZ];omega) ?_;rw[zS];show G9 b8 inc (by rw[K6];exact hz) ?_;have e1:=(Ex.snoc g (O.lst (b0 (nums hs)))).trans (Ex.snoc _ (O.lst (b0 (nums hs))));refine#[_,_,rfl,a7 b8,hs,λp=>.int (p.1:Nat),λZ=>∃z1 z2,Z=[some (.ref q),z1,z2],λ_=>true,λp=>p.2.d,λg' e=>n9 (a7 ?_),by omega,#[none,none,rfl],λp Z g' hp e sh=>?_,λg' e=>?_]
 ·rw[show hs.map (λp=>D.int (p.1:Nat))=b0 (nums hs) by simp[b0,nums]];exact e.at b8
 ·let#[z1,z2,rfl]:=sh;refine j9 (M3 #[rfl,e,iV ?_]);left;have B':=(B.at e1).at e;refine m8 B'.b rfl L9 ?_;left;exact m8 B'.c rfl (p8 (f:=a9.d) inc hp) #[rfl,e,_,_,rfl]
 ·rw[O7];refine h _ _ ((e1.trans e).trans (Ex.snoc _ _)) (e1.trans e).len ?_;rw[d8,aX];exact b8
def uK(hT:TD T)(B:hX g q qc qf gv lr hs fs)(inc:fh (nums hs))(hz:hs.length<=50)(h:∀g' r,Ex g g'->g.length<=r->g'[r]?=some (.lst (b0 (numsOf hs (fX x) v)))->Q (.ref r) g'):b7 T (k+1) 201 [.ref q,.str x,.int v] g Q E:=by
 refine call_of hT.CW rfl ?_;delta DZ;have rest:aW (b7 T k) (.comp [3,0,2] 5 (.one 4) (.eZ (.prim .eW (.cons (.prim .list (.cons (.prim .ix (.cons (.var 0) (.cons (.lit (.str "coins")) .nil))) .nil)) .nil))) (.eB (.prim (.cmp .Eq) (.cons (.prim .ix (.cons (.prim .ix (.cons (.prim .ix (.cons (.var 1) (.cons (.lit (.str "coins")) .nil))) (.cons (.var 4) .nil))) (.cons (.var 0) .nil))) (.cons (.var 2) .nil)))) (.var 4)) [some (.ref q),some (.str x),some (.int v),some (.int (fX x))] g Q E:=by
  refine L4 (α:=Nat×a9) (a8 T _) (iH (a8 T _) ?_);show m8 B.b rfl L9 ?_;refine tm B.c (by simp[fZ];omega) ?_;rw[zS];refine G9 b8 inc (by rw[K6];exact hz) ?_;have e1:=(Ex.snoc g (O.lst (b0 (nums hs)))).trans (Ex.snoc _ (O.lst (b0 (nums hs))));refine#[_,_,rfl,a7 b8,hs,λp=>.int (p.1:Nat),λZ=>∃z3 z4,Z=[some (.int (fX x)),some (.ref q),some (.int v),z3,z4],λp=>decide (H9 (fX x) p.2=v),λp=>.int (p.1:Nat),λg' e=>n9 (a7 ?_),by omega,#[none,none,rfl],λp Z g' hp e sh=>?_,λg' e=>?_]
  ·rw[show hs.map (λp=>D.int (p.1:Nat))=b0 (nums hs) by simp[b0,nums]];exact e.at b8
  ·let#[z3,z4,rfl]:=sh;refine j9 ?_;left;have B':=(B.at e1).at e;refine m8 B'.b rfl L9 ?_;show m8 B'.c rfl (p8 (f:=a9.d) inc hp) ?_;show A9 (uA (Jp x) p.2) ?_;show#[rfl,e,?_];refine if2 (λ_=>?_) (λ_=>?_)
   ·left;exact#[rfl,e,_,_,rfl]
   ·exact#[_,_,rfl]
  ·refine h _ _ ((e1.trans e).trans (Ex.snoc _ _)) (e1.trans e).len ?_;rw[numsOf,b0,aX];exact b8
 show if2 (λc1=>?_) (λc1=>?_)
 ·rw[show fX x=0 from aH c1] at rest;exact w_lit rest
 ·rw[show fX x=2 from az c1] at rest;exact w_lit rest
def aM5(hT:TD T){c:a9}(h:∀g',Ex g g'->Q (c.re (fX x) v).d g'):b7 T (k+1) 200 [c.d,.str x,.int v] g Q E:=by
 refine call_of hT.CY rfl ?_;dsimp[EH,b9,List.replicate,a9.d];left;have gs:=b8 (g:=g) (o:=O.lst [D.int c.lo,D.tup (c.lm.map .int),D.int c.up,D.tup (c.um.map .int),D.int c.yr]);have fin:∀l:List D,Ex g ((g++[O.lst [D.int c.lo,D.tup (c.lm.map .int),D.int c.up,D.tup (c.um.map .int),D.int c.yr]]).set g.length (.lst l)):=λl=>#[by simp,λi hi=>by rw[aI (),aK hi]]
 refine if2 (λc1=>?_) (λc1=>?_)
 ·rw[show fX x=0 from aH c1] at h;refine qW gs (n:=0) rfl ?_;have g2:=get_set gs (o':=O.lst ([D.int c.lo,D.tup (c.lm.map .int),D.int c.up,D.tup (c.um.map .int),D.int c.yr].set 0 (.int v)));left;exact h _ (fin _)
 ·rw[show fX x=2 from az c1] at h;refine qW gs (n:=2) rfl ?_;have g2:=get_set gs (o':=O.lst ([D.int c.lo,D.tup (c.lm.map .int),D.int c.up,D.tup (c.um.map .int),D.int c.yr].set 2 (.int v)));left;exact h _ (fin _)
def NY(hT:TD T){N}{Z}{i3 i6}(B:hX g q qc qf gv lr hs fs)(inc:fh (nums hs))(hz:hs.length<=50){ns}(ha:g[a]?=some (.lst (b0 ns)))(hn:∀n∈ns,n∈nums hs)(n1:a≠qc)(n2:q≠qc)(n3:qf≠qc)(s0:∀y,(Z.set 5 y)[0]?=some (some (.ref q)))(s1:∀y,(Z.set 5 y)[1]?=some (some (.str x)))(s3:Z[i3]?=some (some (.ref a)))(s6:∀y,(Z.set 5 y)[i6]?=some (some (.int v)))(s5:∀y,(Z.set 5 y)[5]?=some y)(h:∀g' y,Gr qc g g'->hX g' q qc qf gv lr (k9 hs ns (fX x) v) fs->N.nx (Z.set 5 y) g')(h0:ns=[]->∀g',Gr qc g g'->hX g' q qc qf gv lr hs fs->N.nx Z g'):wpS (b7 T (k+1)) (.fg (.one 5) (.eZ (.var i3)) (.seq (.cS (.prim .ix (.cons (.var 0) (.cons (.lit (.str "coins")) .nil))) (.var 5) (.call 200 (.cons (.prim .ix (.cons (.prim .ix (.cons (.var 0) (.cons (.lit (.str "coins")) .nil))) (.cons (.var 5) .nil))) (.cons (.var 1) (.cons (.var i6) .nil))))) .pass)) N Z g E:=by
 refine K4 (a8 T _) (iH (a8 T _) (w_var s3 ?_));refine#[a,_,rfl,a7 ha,b0 ns,λi bV g'=>(bV=Z/\i=0\/0<i/\∃y,bV=Z.set 5 y)/\Gr qc g g'/\hX g' q qc qf gv lr (k9 hs (ns.take i) (fX x) v) fs,λi Z g' q=>n9 (a7 (q.2.1.at n1 ha)),#[.inl #[rfl,rfl],Gr.refl _ _,?_],λi y bV g' hx q'=>?_,λbV g' q'=>?_]
 ·have:k9 hs (ns.take 0) (fX x) v=hs:=by
   conv=>rhs;rw[<- jh hs]
   rfl
  rw[this];exact B
 ·let#[yy,G1,B1]:=q';rw[b0,ah,aa] at hx;let#[n,hx,rfl]:=hx;refine j9 ?_;have Su:bV.set 5 (some (.int (n:Nat)))=Z.set 5 (some (.int (n:Nat))):=by
   rcases yy with⟨rfl,_⟩|⟨_,y,rfl⟩
   ·rfl
   ·rw[gh]
  rw[Su];have hm:=hn n (aJ hx);have lN:n∈nums (k9 hs (ns.take i) (fX x) v):=by rw[F0];exact hm
  have jI:fh (nums (k9 hs (ns.take i) (fX x) v)):=by rw[F0];exact inc
  let#[p,hp,nU]:=ao.mp lN;have iu:(n,p.2)∈k9 hs (ns.take i) (fX x) v:=by rw[<- nU];exact hp
  refine FV (M' (FU (uI (pU (pU (w_var (s0 _) (w_lit ?_)))))));refine m8 B1.b rfl L9 (w_var (s5 _) ?_);refine m8 B1.c rfl (p8 (f:=a9.d) jI iu) ?_;refine uI (w_var (s1 _) (uI (w_var (s6 _) (Fu ?_))));refine aM5 (k:=k) hT λg2 e2=>?_;have B2:=B1.at e2;refine pU (w_var (s0 _) (w_lit (m8 B2.b rfl L9 ?_)));refine w_var (s5 _) ?_;refine S1 B2.c rfl (by simp[fZ,k9];omega) ?_;rw[zC lN,NX inc iu];refine#[.inr #[Nat.succ_pos _,_,rfl],(G1.trans (e2.gr qc)).trans (Gr.set _ _ _),c7 B2.b (aZ n2),?_,c7 B2.f (aZ n3)];rw[show ns.take (i+1)=ns.take i++[n] by rw[bh,hx];rfl];exact get_set B2.c
 ·let#[yy,G1,B1]:=q';rw[b0,ai] at yy;rw[b0,ai,bu] at B1;rcases yy with⟨rfl,z⟩|⟨_,y,rfl⟩
  ·have z':ns=[]:=bH z;subst z';have:k9 hs [] (fX x) v=hs:=by
    conv=>rhs;rw[<- jh hs]
    rfl
   rw[this] at B1;exact h0 rfl _ G1 B1
  ·exact h _ _ G1 B1
end
section
variable{T:Nat->Option aR}{d:Nat}{c:Nat}
def zO(hw:w≠.dR):PyData.strOk w.s=true/\(decide (w.s="lower")||decide (w.s="upper"))=true:=by
 cases w with
 |dR=>exact absurd rfl hw
 |lower=>decide +kernel
 |upper=>decide +kernel
def Uw(hT:TD T)(hw:w≠.dR)(B:hX g q qc qf gv lr hs fs)(O1:ij hs)(n2:q≠qc)(n3:qf≠qc)(hn:x8 hs (cu w) v u≠""->∀g',Ex g g'->Q (.tup [.str (x8 hs (cu w) v u),.br]) g')(h:x8 hs (cu w) v u=""->∀g' r,Gr qc g g'->g.length<=r->g'[r]?=some (.lst (b0 (numsOf hs (cu w) u)))->hX g' q qc qf gv lr (k9 hs (numsOf hs (cu w) u) (cu w) v) fs->Q (.tup [.str "",.ref r]) g'):b7 T (k+2) 202 [.ref q,.str w.s,.int v,.int u] g Q E:=by
 have hz:=O1.len;refine call_of hT.wI rfl ?_;delta Am;show J6 (zR b8 (zO hw).1 ?_);rw[(zO hw).2];left;have e1:=Ex.snoc g (O.lst [D.str "lower",D.str "upper"]);refine uK (k:=k) hT (B.at e1) O1.inc () λg2 r2 e2 l2 kM=>?_;rw[uQ hw] at kM;have jL:=e1.trans e2;left;have fin:∀g3,Ex g g3->(numsOf hs (cu w) v=[]\/numsOf hs (cu w) u=[])->Q (.tup [.str "NoDie",.br]) g3:=λg3 e3 z=>by
  have:x8 hs (cu w) v u="NoDie":=by unfold x8;rw[aH z]
  rw[this] at hn;exact hn #[] _ e3
 have li:∀l:List Nat,(b0 l).length=l.length:=λl=>by simp[b0]
 rw[li];by_cases d2:numsOf hs (cu w) u=[]
 ·refine eM (by rw[d2];rfl) ?_;left;exact fin _ jL (.inr d2)
 refine ei (ax (λz=>d2 (bH ()))) ?_;show uK (k:=k) hT (B.at jL) O1.inc () λg3 r3 e3 l3 pk=>?_;rw[uQ hw] at pk;have jb:=jL.trans e3;left;rw[li];by_cases d1:numsOf hs (cu w) v=[]
 ·refine eM (by rw[d1];rfl) ?_;left;exact fin _ jb (.inl d1)
 refine ei (ax (λz=>d1 (bH ()))) ?_;show if2 (λrX=>?_) (λrX=>?_)
 ·have:x8 hs (cu w) v u="SameOne":=by unfold x8;rw[az (λz=>z.elim d1 d2),aH rX]
  rw[this] at hn;left;exact hn #[] _ jb
 ·have this:x8 hs (cu w) v u="":=by unfold x8;rw[az (λz=>z.elim d1 d2),az rX]
  have lc:=i8 B.c;have B3:=B.at jb;have Hz:=e3.at kM;have l1:=e1.len;refine NY (k:=k) (a:=r2) (x:=w.s) (v:=v) hT B3 O1.inc () Hz (λn hn=>Z0 hn) () n2 n3 (λ_=>rfl) (λ_=>rfl) rfl (λ_=>rfl) (λ_=>rfl) (λg4 y G4 B4=>?_) (λz=>absurd z d2);rw[uQ hw] at B4;left;exact h this _ _ #[by have:=jb.len;have:=G4.len;omega,λi h1 h2=>(G4.old i h1 (ay h2 jb.len)).trans (jb.old i h2)] () (G4.at () Hz) B4
def YD(hT:TD T)(ho:PyData.strOk x=true)(h1:x≠"lower")(h2:x≠"upper")(h:∀g',Ex g g'->Q (.tup [.str "BadSide",.br]) g'):b7 T (k+2) 202 [.ref q,.str x,.int v,.int u] g Q E:=by
 refine call_of hT.wI rfl ?_;delta Am;show J6 (zR b8 ho ?_);rw[ax h1,ax h2];show eM rfl ?_;left;exact h _ (Ex.snoc _ _)
def YE(hT:TD T)(ho:PyData.strOk x=true)(h1:x≠"lower")(h2:x≠"upper")(h:∀g',Ex g g'->Q (.tup [.str "BadSide",.br]) g'):b7 T (k+2) 203 [.ref q,.str x,.int v,.ref a] g Q E:=by
 refine call_of hT.wH rfl ?_;delta An;show J6 (zR b8 ho ?_);rw[ax h1,ax h2];show eM rfl ?_;left;exact h _ (Ex.snoc _ _)
def a36{p}(hj:j<n)(hp:p j=true)(hl:∀i,i<j->p i=false):((List.range n).filter p)[0]?=some j:=by
 rw[<- List.head?_eq_getElem?,List.head?_filter,List.find?_range_eq_some];exact#[hp,bj.mpr hj,λi hi=>by rw[hl i hi];rfl]
def Wt(ns:List Int):(ST.f9 [] ns).length<=ns.length:=by simpa using ST.P0 ns []
def Ux(hT:TD T)(hw:w≠.dR)(B:hX g q qc qf gv lr hs fs)(O1:ij hs)(n2:q≠qc)(n3:qf≠qc)(ha:g[a]?=some (.lst (ns.map .int)))(hl:ns.length<=50)(n1:a≠qc){F}(hF:pK (q9 hs (cu w)) F)(hn:A7 hs (cu w) v ns≠""->∀g',Ex g g'->Q (.tup [.str (A7 hs (cu w) v ns),.br]) g')(h:A7 hs (cu w) v ns=""->∀g',Gr qc g g'->hX g' q qc qf gv lr (k9 hs (ns.map Int.toNat) (cu w) F) fs->Q (.tup [.str "",.int F]) g'):b7 T (k+2) 203 [.ref q,.str w.s,.int v,.ref a] g Q E:=by
 have hz:=O1.len;refine call_of hT.wH rfl ?_;delta An;show J6 (zR b8 (zO hw).1 ?_);rw[(zO hw).2];left;have e1:=Ex.snoc g (O.lst [D.str "lower",D.str "upper"]);refine uK (k:=k) hT (B.at e1) O1.inc () λg2 r2 e2 l2 kM=>?_;rw[uQ hw] at kM;have jL:=e1.trans e2;have li:∀l:List Nat,(b0 l).length=l.length:=λl=>by simp[b0]
 left;rw[li];by_cases d1:numsOf hs (cu w) v=[]
 ·refine eM (by rw[d1];rfl) ?_;left;have:A7 hs (cu w) v ns="NoDie":=by unfold A7;rw[aH d1]
  rw[this] at hn;exact hn #[] _ jL
 refine ei (ax (λz=>d1 (bH ()))) ?_;have a2:=jL.at ha;rw[L7] at kM;show L4 (α:=Int) (a8 T _) (sT (a8 T _) (a7 a2) (λQ q=>w_var (d:=.ref a) rfl q) _ ?_);refine#[ns,D.int,λZ=>∃z1 z2,Z=[some (.ref r2),z1,z2],λ_=>true,λn=>.bl (decide (n∈(numsOf hs (cu w) v).map λn:Nat=>(n:Int))),λg' e=>n9 (a7 (e.at a2)),by omega,#[none,none,rfl],λn Z g' hp e sh=>?_,λg3 e3=>?_]
 ·let#[z1,z2,rfl]:=sh;refine j9 (M3 #[rfl,e,iV ?_]);show qN (U8 (a7 (e.at kM)) ?_);exact#[rfl,e,_,_,rfl]
 rw[O7];have e4:=(jL.trans e3).trans (Ex.snoc g3 (O.lst (ns.map λn=>D.bl (decide (n∈(numsOf hs (cu w) v).map λn:Nat=>(n:Int))))));have Sn:=e3.trans (Ex.snoc g3 (O.lst (ns.map λn=>D.bl (decide (n∈(numsOf hs (cu w) v).map λn:Nat=>(n:Int))))));refine Ae (v:=ns.all λn=>decide (n∈(numsOf hs (cu w) v).map λn:Nat=>(n:Int))) (a7 b8) (by rw[show ns.map (λn=>D.bl (decide (n∈(numsOf hs (cu w) v).map λn:Nat=>(n:Int))))=(ns.map λn=>decide (n∈(numsOf hs (cu w) v).map λn:Nat=>(n:Int))).map D.bl by rw[aX];rfl,zQ,List.all_map];rfl) ?_;generalize g3++[O.lst (ns.map λn=>D.bl (decide (n∈(numsOf hs (cu w) v).map λn:Nat=>(n:Int))))]=g4 at *;left;cases kh:ns.all λn=>decide (n∈(numsOf hs (cu w) v).map λn:Nat=>(n:Int)) with
 |false =>
  refine eM rfl ?_;left;have:A7 hs (cu w) v ns="NoCoin":=by unfold A7;rw[az d1,az (by rw[kh];decide)]
  rw[this] at hn;exact hn #[] _ e4
 |true =>
  refine ei rfl ?_;have a4:=e4.at ha;have r4:=Sn.at kM;have lm:(ns.map D.int).length=ns.length:=by simp
  have lr:(((numsOf hs (cu w) v).map λn:Nat=>(n:Int)).map D.int).length=(numsOf hs (cu w) v).length:=by simp
  have ale:=Wt ns;have bad:N9 hs (cu w) v ns=true->Q (.tup [.str "BadList",.br]) g4:=λz=>by
   have:A7 hs (cu w) v ns="BadList":=by unfold A7;rw[az d1,aH kh,aH z]
   rw[this] at hn;exact hn #[] _ e4
  have good:N9 hs (cu w) v ns=false->A7 hs (cu w) v ns="":=λz=>by unfold A7;rw[az d1,aH kh,az (by rw[z];decide)]
  left;rw[lm];by_cases c1:ns.length=0
  ·refine eM (aE ()) ?_;left;exact bad (by unfold N9;simp[c1])
  refine ei (ax ()) ?_;show Kc (a7 a4) () ?_;left;rw[lm];by_cases c2:(ST.f9 [] ns).length=ns.length
  ·refine ei (ax ()) ?_;left;rw[lm,lr];by_cases c3:ns.length=(numsOf hs (cu w) v).length
   ·refine eM (aE ()) ?_;left;exact bad (by unfold N9;simp[c3])
   refine ei (ax ()) ?_;have b1:N9 hs (cu w) v ns=false:=by
    unfold N9;rw[ax (),ax (),ax ()]
    rfl
   have B4:=B.at e4;show L4 (α:=Nat) (a8 T _) (b92 (a8 T _) ?_);show#[1,12,rfl,rfl,#[by decide,by decide,by decide,by decide],List.range 11,λj=>.int (1+(j:Int)),λZ=>∃z2 z3,Z=[some (.ref q),some (.str w.s),z2,z3],λj=>decide (numsOf hs (cu w) (1+(j:Int))=[]),λj=>.int (1+(j:Int)),λ_ _=>L3,by decide,#[none,none,rfl],λj Z g' hj e sh=>?_,λg5 e5=>?_]
   ·let#[z2,z3,rfl]:=sh;refine j9 ?_
    try show dP _ _ _ _ _ _
    show uK (k:=k) hT (B4.at e) O1.inc () λg6 r6 e6 l6 yL=>?_;rw[uQ hw] at yL;left;rw[li];have ee:decide (((numsOf hs (cu w) (1+(j:Int))).length:Int)=0)=decide (numsOf hs (cu w) (1+(j:Int))=[]):=fF.mpr #[λz=>bH (),λz=>by rw[z];rfl];refine#[ee,e.trans e6,?_];refine if2 (λ_=>?_) (λ_=>?_)
    ·left;exact#[rfl,e.trans e6,_,_,rfl]
    ·exact#[_,_,rfl]
   have Iw:=hF.le;have hFp:=hF.pos;have dl:(q9 hs (cu w)).length<=9:=by simpa[q9,d8] using hz
   have ff:=a36 (p:=λj:Nat=>decide (numsOf hs (cu w) (1 + (j:Int))=[])) (n:=11) (j:=(F - 1).toNat) () (aE (by
    rw[show 1+(((F-1).toNat:Nat):Int)=F by omega];exact pZ λz=>hF.no (N6.mpr z))) (λi hi=>ax (N6.mp (hF.all _ () ())))
   have e6:=e5.trans (Ex.snoc g5 (O.lst (((List.range 11).filter λj:Nat=>decide (numsOf hs (cu w) (1+(j:Int))=[])).map λj:Nat=>D.int (1+(j:Int)))));show E5 (d:=.int F) (a7 b8) (O9 (j:=0) (by rw[ah,ff];simp;omega)) ?_;generalize g5++[O.lst (((List.range 11).filter λj:Nat=>decide (numsOf hs (cu w) (1+(j:Int))=[])).map λj:Nat=>D.int (1+(j:Int)))]=g6 at *;have jx:=e4.trans e6;have vV:∀n∈ns,∃j∈numsOf hs (cu w) v,n=(j:Nat):=λn hx=>by
    let#[j,hj,e]:=ao.mp (aM (bt.mp kh n hx));exact#[j,hj,e.symm]
   have en:ns.map D.int=b0 (ns.map Int.toNat):=by
    rw[b0,aX];refine bP λn hx=>?_;let#[j,_,rfl]:=vV n hx;simp
   have a6:=jx.at ha;rw[en] at a6;show NY (k:=k) (a:=a) (x:=w.s) (v:=F) hT (B.at jx) O1.inc () a6 (λn hx=>?_) n1 n2 n3 (λ_=>rfl) (λ_=>rfl) rfl (λ_=>rfl) (λ_=>rfl) (λg7 y G7 B7=>?_) (λz=>?_)
   ·let#[i,hi,rfl]:=ao.mp hx;let#[j,hj,rfl]:=vV i hi;exact Z0 (by simpa using hj)
   ·rw[uQ hw] at B7
    try show wpS _ _ _ _ _ _
    left;exact h (good b1) _ #[by have:=jx.len;have:=G7.len;omega,λi h1 h2=>(G7.old i h1 (ay h2 jx.len)).trans (jx.old i h2)] B7
   ·have:ns.length=0:=by simpa using cT List.length z
    exact absurd this c1
  ·refine eM (aE ()) ?_;left;exact bad (by unfold N9;simp[c2])
end
abbrev GF:aR:=#[2,3,(.seq (.ifs (cN .NotIn aL (bA aA (cv "coins"))) (.seq (.ret (bN .tup (cv "NoCoin") (.lit .br))) .pass) .pass) (.seq (.fg (.one 2) (.eZ (cB .eW (cB .list (bA aA (cv "facts"))))) (.seq (.ifs (cN .In aL (bA (bA aA (cv "facts")) aV)) (.seq (.expr (.fu .iW (bA aA (cv "facts")) (cX aV))) .pass) .pass) .pass)) (.seq (.ret (bN .tup (cv "") (.fu .iW (bA aA (cv "coins")) (cX aL)))) .pass)))]
abbrev FE:aR:=#[3,3,(.seq (.ifs (.gF (cN .NotIn aL (bA aA (cv "coins"))) (cN .NotIn aV (bA aA (cv "coins")))) (.seq (.ret (bN .tup (cv "NoCoin") (.lit .br))) .pass) .pass) (.seq (.ifs (cN .Eq aL aV) (.seq (.ret (bN .tup (cv "SameOne") (.lit .br))) .pass) .pass) (.seq (.cS aA (cv "learnt") (bN (.bin .Add) (bA aA (cv "learnt")) (aT 1))) (.seq (.cS (bA aA (cv "facts")) (bA aA (cv "learnt")) (bN .tup aL aV)) (.seq (.ret (bN .tup (cv "") (bA aA (cv "learnt")))) .pass)))))]
abbrev pQ:aR:=#[2,4,(.seq (.set 2 (bA aL (aT 0))) (.seq (.ifs (cN .Eq aV (cv "put")) (.seq (.ret (.call 197 (cY aA (bA aL (aT 1))))) .pass) .pass) (.seq (.ifs (cN .Eq aV (cv "right")) (.seq (.ifs (cN .NotIn (bA aL (aT 1)) (bA aA (cv "coins"))) (.seq (.ret (bN .tup (cv "NoCoin") (.lit .br))) .pass) .pass) (.seq (.ifs (.de (.eB (.call 13 (cX (bA aL (aT 2)))))) (.seq (.ret (bN .tup (cv "BadCoin") (.lit .br))) .pass) .pass) (.seq (.set 3 (bA (bA aA (cv "coins")) (bA aL (aT 1)))) (.seq (.cS (bA aA (cv "coins")) (bA aL (aT 1)) (bA aL (aT 2))) (.seq (.ret (bN .tup (cv "") bx)) .pass))))) .pass) (.seq (.ifs (cN .Eq aV (cv "out")) (.seq (.ret (.call 198 (cY aA (bA aL (aT 1))))) .pass) .pass) (.seq (.ifs (cN .Eq aV (cv "tell")) (.seq (.ret (.call 199 (fj aA (bA aL (aT 1)) (bA aL (aT 2))))) .pass) .pass) (.seq (.ifs (cN .Eq aV (cv "untell")) (.seq (.ifs (cN .NotIn (bA aL (aT 1)) (bA aA (cv "facts"))) (.seq (.ret (bN .tup (cv "NoFact") (.lit .br))) .pass) .pass) (.seq (.ret (bN .tup (cv "") (.fu .iW (bA aA (cv "facts")) (cX (bA aL (aT 1)))))) .pass)) .pass) (.seq (.ifs (cN .Eq aV (cv "one")) (.seq (.ret (.call 202 (oS aA (bA aL (aT 1)) (bA aL (aT 2)) (bA aL (aT 3))))) .pass) .pass) (.seq (.ret (.call 203 (oS aA (bA aL (aT 1)) (bA aL (aT 2)) (bA aL (aT 3))))) .pass))))))))]
abbrev E3:aR:=#[2,3,(.seq (.set 2 (bA aL (aT 0))) (.seq (.ifs (cN .Eq aV (cv "put")) (.seq (.ret (.bK "put" [("Cabinet",214)] aA (cX (bA aL (aT 1))))) .pass) .pass) (.seq (.ifs (cN .Eq aV (cv "right")) (.seq (.ret (.bK "right" [("Cabinet",215)] aA (cY (bA aL (aT 1)) (bA aL (aT 2))))) .pass) .pass) (.seq (.ifs (cN .Eq aV (cv "out")) (.seq (.ret (.bK "out" [("Cabinet",216)] aA (cX (bA aL (aT 1))))) .pass) .pass) (.seq (.ifs (cN .Eq aV (cv "tell")) (.seq (.ret (.bK "tell" [("Cabinet",217)] aA (cY (bA aL (aT 1)) (bA aL (aT 2))))) .pass) .pass) (.seq (.ifs (cN .Eq aV (cv "untell")) (.seq (.ret (.bK "untell" [("Cabinet",218)] aA (cX (bA aL (aT 1))))) .pass) .pass) (.seq (.ifs (cN .Eq aV (cv "one")) (.seq (.ret (.bK "one_die" [("Cabinet",219)] aA (fj (bA aL (aT 1)) (bA aL (aT 2)) (bA aL (aT 3))))) .pass) .pass) (.seq (.ret (.bK "two_dies" [("Cabinet",220)] aA (fj (bA aL (aT 1)) (bA aL (aT 2)) (cB .list (bA aL (aT 3)))))) .pass))))))))]
abbrev zI:aR:=#[2,6,(.seq (.set 2 (.call 196 (cX aL))) (.seq (.ifs (.gF (cN .Eq (cB .len aV) (aT 0)) (cN .Eq (.call 4 (cY aA (aT 3))) (aT 0))) (.seq (.ret (.call 22 (cX aA))) .pass) .pass) (.seq (.set 3 (bA aV (.call 4 (cY aA (cB .len aV))))) (.seq (.set 4 (bA aV (.call 4 (cY aA (cB .len aV))))) (.seq (.set 5 (.comp [0] 3 (.one 2) (.eZ (bN .tup (bA bx (aT 1)) (bA dw (aT 3)))) .no (cB .tuple (.comp [0,2] 4 (.one 3) (.fL (aT 8)) (.gF (cN .In bx aL) (cN .Eq (.call 4 (cY aA (aT 9))) (aT 0))) bx)))) (.seq (.ret (.prim .tup (qb (bA bx (aT 0)) (bA fz (aT 0)) (bA dw (aT 2)) (bA fz (aT 1)) (bA (.prim .lst (fj (aT 0) (bA bx (aT 4)) (aT 1410))) (.call 4 (cY aA (aT 3))))))) .pass))))))]
abbrev ES:aR:=#[2,3,(.seq (.set 2 (cB .eW (cB .list (bA aL (cv "coins"))))) (.seq (.ifs (.gF (.de (.eB (.call 7 (cY (.bK "numbers" [("Cabinet",221)] aA .nil) aV)))) (.de (.eB (.call 7 (cY (.bK "coins" [("Cabinet",223)] aA .nil) (.call 196 (cX aL))))))) (.seq (.ret (.lit (.bl false))) .pass) .pass) (.seq (.ifs (.de (.eB (cB .all (.comp [1,0] 4 (.one 3) (.eZ aV) .no (.call 7 (cY (.bK "coin" [("Cabinet",222)] aL (cX bx)) (bA (bA aA (cv "coins")) bx))))))) (.seq (.ret (.lit (.bl false))) .pass) .pass) (.seq (.ret (.call 7 (cY (.bK "facts" [("Cabinet",224)] aA .nil) (.comp [1] 3 (.one 2) (.eZ (cB .eW (cB .list (bA aL (cv "facts"))))) .no (bN (.bin .Add) (cB .tup aV) (bA (bA aA (cv "facts")) aV)))))) .pass))))]
abbrev Fe:aR:=#[2,2,(.seq (.expr (.bK "check_number" [("Cabinet",209)] aA (cX aL))) (.seq (.gi "claims" ["Cabinet"] aA (bN .nr (cB (.fld "claims") aA) aL)) (.seq (.ret (.fu .iW (cB (.fld "held") aA) (cX aL))) .pass)))]
abbrev U4:aR:=#[2,2,(.seq (.ifs (.gF (.de (.eB (.call 38 (cX aL)))) (cN .NotIn aL (cB (.fld "claims") aA))) (.seq (.raise "NoFact" (cX (cv "no fact has that number"))) .pass) .pass) (.seq (.ret (.fu .iW (cB (.fld "claims") aA) (cX aL))) .pass))]
structure Fl(a b c:Nat)(g g':G):Prop where
 len:g.length<=g'.length
 old:∀i,(i≠a/\i≠b/\i≠c)->i<g.length->g'[i]?=g[i]?
section
variable{c d:Nat}{g2:G}
def Fl.at(F:Fl a b c g g')(h:i≠a/\i≠b/\i≠c)(e:g[i]?=some o):g'[i]?=some o:=(F.old i h (i8 e)).trans e
def Ex.fl(e:Ex g g'):Fl a b c g g':=#[e.len,λi _ h=>e.old i h]
def Fl.trans(F:Fl a b c g g')(F2:Fl a b c g' g2):Fl a b c g g2:=#[aD F.len F2.len,λi h l=>(F2.old i h (ay l F.len)).trans (F.old i h l)]
def Fl.set(F:Fl a b c g g'){i}(h:i=a\/i=b\/i=c)(o:O):Fl a b c g (g'.set i o):=#[by rw[List.length_set];exact F.len,λj hj l=>by rw[aI ()];exact F.old j hj l]
def Gr.fl{x}(G1:Gr x g g')(h:x=a\/x=b\/x=c):Fl a b c g g':=#[G1.len,λi hi l=>G1.old i () l]
def Fl.draw(F:Fl a b c g g')(D0:n6 g d)(h:d<a/\d<b/\d<c):n6 g' d:=by
 let#[s,p,x,r,xs,e1,e2,hs,q]:=D0.ex;exact#[s,p,x,r,xs,F.at () e1,F.at () e2,hs,q]
end
abbrev fY(l:List Nat)(v:Int):Bool:=l.any λn=>decide ((n:Int)=v)
def U9:fY l v=true↔∃n∈l,v=(n:Nat):=by
 unfold fY;rw[bw];exact#[(by rintro ⟨n,h,e⟩;exact #[n,h,(aM e).symm]),(by rintro ⟨n,h,e⟩;exact #[n,h,aE e.symm])]
def O6{hs:List (Nat×α)}(h:fY (nums hs) v=true):∃n x,v=(n:Nat)/\(n,x)∈hs:=by
 let#[n,hn,e]:=U9.mp h;let#[#[n',x],hp,rfl]:=ao.mp hn;exact#[n',x,e,hp]
abbrev M1{α:Type}(hs:List (Nat×α))(n:Nat):List (Nat×α):=hs.filter λp=>decide (p.1≠n)
def Xo{a}:decide (kC a≠kC b)=decide (a≠b):=fF.mpr (not_congr #[λz=>by have:(a:Int)=b:=dh z;omega,λz=>by rw[z]])
def xH{f:α->D}(hs:List (Nat×α))(n:Nat):delD (hs.map λp=>(kC p.1,f p.2)) (kC n)=(M1 hs n).map λp=>(kC p.1,f p.2):=by
 unfold delD M1;rw[eV];exact cT _ (gK λp _=>Xo)
abbrev J5(v:Int)(p:Nat×Int×Int):Bool:=!(decide (p.2.1=v)||decide (p.2.2=v))
abbrev kP(p:Nat×Int×Int):Key×Int×Int:=(kC p.1,p.2)
def Jq(fs:Fs):(fs.map kP).map lR=gU fs:=by
 unfold gU;rw[aX]
 rfl
def bC6(fs:Fs)(v:Int):((fs.map kP).filter (qT v)).map lR=gU (fs.filter (J5 v)):=by
 rw[eV,<- Jq]
 rfl
def Xq(h:fh (nums fs)):((fs.map kP).map (·.1)).Nodup:=by
 rw[aX];exact cF.mpr ((cF.mp h).imp λz e=>by have:((_:Nat):Int)=(_:Nat):=dh e;omega)
def fh.sub{l m:List (Nat×α)}(h:fh (nums l))(s:m.Sublist l):fh (nums m):=iR (s.map _) h
def Nz{x y}(h:n∉nums fs):putD (gU fs) (kC n) (.tup [.int x,.int y])=gU (fs++[(n,x,y)]):=by
 unfold putD;rw[az]
 ·simp[gU]
 ·intro z;let#[p,hx,e]:=bw.mp z;let#[p,hp,rfl]:=ao.mp hx;have:(p.1:Int)=n:=dh (aM e);exact h (ao.mpr #[p,hp,by omega])
def Eg:v8 (P4 qc qf gv lr) (.inr "learnt")=some (.int (lr:Nat)):=rfl
noncomputable abbrev pD(p:Int×Int):D:=.tup [.int p.1,.int p.2]
structure TE(T:Nat->Option aR):Prop where
 tc:TC T
 td:TD T
 h6:T 6=some xX
 h7:T 7=some M4
 CL:T 22=some zG
 CT:T 210=some P2
 CP:T 215=some Y1
 CO:T 216=some Fe
 CN:T 217=some Fo
 CM:T 218=some U4
 Dd:T 198=some GF
 Dc:T 199=some FE
 kT:T 204=some pQ
 kS:T 205=some E3
 CV:T 207=some ES
section
variable{T:Nat->Option aR}{d:Nat}{lc lf:Nat}
def tE{f:α->D}{hs:List (Nat×α)}(h:g[a]?=some (.cg (hs.map λp=>(kC p.1,f p.2))))(hk:kb (fY (nums hs) v)):nQ g (.int v) (.ref a) kb:=#[_,.inl #[a,_,.inl v,rfl,h,rfl,rfl],by rw[bF9];exact hk]
def Z6(hT:TC T)(C:fT g m hd cl lc lf hs fs)(hn:fY (nums hs) v=false->E #["NoCoin"] g)(h:fY (nums hs) v=true->Q .br g):b7 T (k+2) 209 [.ref m,.int v] g Q E:=by
 refine call_of hT.wG rfl ?_;delta F9;show K0 (k:=k) hT.nf ?_;show u3 C.o rfl ?_;refine J6 (tE (f:=a9.d) C.h ?_);left;by_cases hv:fY (nums hs) v=true
 ·refine ei (by rw[hv];rfl) ?_;exact h hv
 ·have hv:=bo.mpr hv;refine eM (by rw[hv];rfl) ?_;left;exact hn hv
def b20(hT:TC T)(C:fT g m hd cl lc lf hs fs)(inc:fh (nums hs))(hn:fY (nums hs) v=false->E #["NoCoin"] g)(h:∀n x,v=(n:Nat)->(n,x)∈hs->Q x.d g):b7 T (k+3) 222 [.ref m,.int v] g Q E:=by
 refine call_of hT.wC rfl ?_;delta T2;show i0 C.o rfl rfl ?_;show Z6 (k:=k) hT C hn λhv=>?_;let#[n,x,rfl,hp]:=O6 hv;show u3 C.o rfl ?_;show m8 C.h rfl (p8 (f:=a9.d) inc hp) ?_;exact h n x rfl hp
def Fc(hT:TC T)(hn:j5 c=false->E #["BadCoin"] g)(h:j5 c=true->Q .br g):b7 T (k+5) 39 [c.d] g Q E:=by
 refine call_of hT.pG.2 rfl ?_;delta S3;show Fm hT.nf hT.h2 hT.mq ?_;left;by_cases hc:j5 c=true
 ·refine ei (by rw[hc];rfl) ?_;exact h hc
 ·have hc:=bo.mpr hc;refine eM (by rw[hc];rfl) ?_;left;exact hn hc
abbrev E1(hs:Hs)(c:a9):Str:=if j5 c=false then "BadCoin" else if hs.length=9 then "Full" else ""
def b72(hT:TC T)(C:fT g m hd cl lc lf hs fs)(O1:ij hs)(dO:∀n∈nums hs,n<=lc)(n2:m≠hd)(n3:cl≠hd)(n4:cl≠m)(hn:E1 hs c≠""->E #[E1 hs c] g)(h:E1 hs c=""->j5 c=true->hs.length<9->∀g',Fl m hd cl g g'->fT g' m hd cl (lc+1:Nat) lf (hs++[(lc+1,c)]) fs->Q (.int (lc+1:Nat)) g'):b7 T (k+6) 214 [.ref m,c.d] g Q E:=by
 by_cases hc:j5 c=true
 ·have hz:=O1.len;by_cases h9:hs.length=9
  ·have e:E1 hs c="Full":=by unfold E1;rw[az (by rw[hc];decide),aH h9]
   rw[e] at hn;refine call_of hT.sy rfl ?_;delta P6;show Fc (k:=k) hT (λz=>by rw[hc] at z;cases z) λ_=>?_;show u3 C.o rfl ?_;refine GB C.h ?_;show eM (aE (by simp[fZ,h9])) ?_;left;exact hn #[]
  ·have e:E1 hs c="":=by unfold E1;rw[az (by rw[hc];decide),az h9]
   exact aC5 (k:=k) hT C hc () dO n2 n3 n4 λg' l o C'=>h e hc () g' #[by omega,λi hi _=>o i hi.2.1 hi.1] C'
 ·have hc:=bo.mpr hc;have e:E1 hs c="BadCoin":=by unfold E1;rw[aH hc]
  rw[e] at hn;refine call_of hT.sy rfl ?_;delta P6;left;exact Fc (k:=k) hT (λ_=>hn #[]) λz=>by rw[hc] at z;cases z
abbrev v7(hs:Hs)(v:Int)(c:a9):Str:=if fY (nums hs) v=false then "NoCoin" else if j5 c=false then "BadCoin" else ""
def ZY(hT:TE T)(C:fT g m hd cl lc lf hs fs)(O1:ij hs)(n2:m≠hd)(n3:cl≠hd)(hn:v7 hs v c≠""->E #[v7 hs v c] g)(h:v7 hs v c=""->j5 c=true->∀n x g',v=(n:Nat)->(n,x)∈hs->Fl m hd cl g g'->fT g' m hd cl lc lf (nD hs n c) fs->Q x.d g'):b7 T (k+6) 215 [.ref m,.int v,c.d] g Q E:=by
 have hz:=O1.len;refine call_of hT.CP rfl ?_;delta Y1;show i0 C.o rfl rfl ?_;show b20 (k:=k+2) hT.tc C O1.inc (λhv=>?_) λn x e hp=>?_
 ·have e:v7 hs v c="NoCoin":=by unfold v7;rw[aH hv]
  rw[e] at hn;exact hn #[]
 have hv:fY (nums hs) v=true:=U9.mpr #[n,ao.mpr #[_,hp,rfl],e];subst e;show Fc (k:=k) hT.tc (λhc=>?_) λhc=>?_
 ·have e:v7 hs n c="BadCoin":=by unfold v7;rw[az (by rw[hv];decide),aH hc]
  rw[e] at hn;exact hn #[]
 have e:v7 hs n c="":=by unfold v7;rw[az (by rw[hv];decide),az (by rw[hc];decide)]
 show u3 C.o rfl ?_;show S1 C.h rfl (by simp[fZ];omega) ?_;rw[zC (ao.mpr #[_,hp,rfl])];left;exact h e hc n x _ rfl hp ((Ex.fl (Ex.refl g)).set (.inr (.inl rfl)) _) #[c7 C.o (aZ n2),get_set C.h,c7 C.c (aZ n3)]
def b74(hT:TE T)(C:fT g m hd cl lc lf hs fs)(O1:ij hs)(inc:fh (nums fs))(hf:fs.length<1000)(n2:m≠hd)(n3:cl≠hd)(hn:fY (nums hs) v=false->E #["NoCoin"] g)(h:∀n x g',v=(n:Nat)->(n,x)∈hs->Fl m hd cl g g'->fT g' m hd g.length lc lf (M1 hs n) (fs.filter (J5 v))->Q x.d g'):b7 T (k+3) 216 [.ref m,.int v] g Q E:=by
 have lm:=i8 C.o;have lh:=i8 C.h;refine call_of hT.CO rfl ?_;delta Fe;show i0 C.o rfl rfl ?_;show Z6 (k:=k) hT.tc C hn λhv=>?_;let#[n,x,rfl,hp]:=O6 hv;show u3 C.o rfl ?_;show Zy (fs:=fs.map kP) (by rw[Jq];exact C.c) (by simpa using hf) (Xq inc) ?_;rw[bC6];have e1:=Ex.snoc g (O.cg (gU (fs.filter (J5 (n:Nat)))));have s1:=b8 (g:=g) (o:=O.cg (gU (fs.filter (J5 (n:Nat)))));have C1:=C.at e1;generalize g++[_]=g1 at *;show P8 C1.o #[_] #[_] ?_;have e3:(O.ins "Cabinet" (m7 "claims" (.ref g.length) [("held",.ref hd),("claims",.ref cl),("last_coin",.int (lc:Nat)),("last_fact",.int (lf:Nat))]))=gW hd g.length (lc:Nat) (lf:Nat):=rfl;rw[e3];have o2:=get_set C1.o (o':=gW hd g.length (lc:Nat) (lf:Nat));have h2:=c7 C1.h n2 (o':=gW hd g.length (lc:Nat) (lf:Nat));show u3 o2 rfl ?_;show#[xj h2,?_];show xC h2 rfl (p8 (f:=a9.d) O1.inc hp) ?_;rw[show delD (fZ hs) (kC n)=fZ (M1 hs n) from xH (f:=a9.d) hs n];exact h n x _ rfl hp (((Ex.fl e1).set (.inl rfl) _).set (.inr (.inl rfl)) _) #[c7 o2 (aZ n2),get_set h2,c7 (c7 s1 ()) ()]
abbrev x6(hs:Hs)(v u:Int):Str:=if fY (nums hs) v=false\/fY (nums hs) u=false then "NoCoin" else if v=u then "SameOne" else ""
def Yo(hT:TE T)(C:fT g m hd cl lc lf hs fs)(dO:∀n∈nums fs,n<=lf)(hf:fs.length<1000)(n2:m≠hd)(n3:cl≠hd)(n4:cl≠m)(hn:x6 hs v u≠""->E #[x6 hs v u] g)(h:x6 hs v u=""->∀g',Fl m hd cl g g'->fT g' m hd cl lc (lf+1:Nat) hs (fs++[(lf+1,v,u)])->Q (.int (lf+1:Nat)) g'):b7 T (k+4) 217 [.ref m,.int v,.int u] g Q E:=by
 refine call_of hT.CN rfl ?_;delta Fo;show i0 C.o rfl rfl ?_;show call_of hT.CT rfl ?_;delta P2;have no:(fY (nums hs) v=false\/fY (nums hs) u=false)->E #["NoCoin"] g:=λz=>by
  have e:x6 hs v u="NoCoin":=by unfold x6;rw[aH z]
  rw[e] at hn;exact hn #[]
 show i0 C.o rfl rfl ?_;show Z6 (k:=k) hT.tc C (λz=>no (.inl z)) λh1=>?_;show i0 C.o rfl rfl ?_;show Z6 (k:=k) hT.tc C (λz=>no (.inr z)) λh2=>?_;have nn:¬(fY (nums hs) v=false\/fY (nums hs) u=false):=by rw[h1,h2];decide
 show if2 (λz=>?_) (λz=>?_)
 ·have e:x6 hs v u="SameOne":=by unfold x6;rw[az nn,aH z]
  rw[e] at hn;left;exact hn #[]
 have e:x6 hs v u="":=by unfold x6;rw[az nn,az z]
 refine OO ?_;show#[m,_,_,_,rfl,C.o,by simp,rfl,?_];refine FC ?_;refine#[_,C.o,by simp,?_];have o2:=get_set C.o (o':=gW hd cl (lc:Nat) (lf+1:Nat));have c2:=c7 C.c (aZ n4) (o':=gW hd cl (lc:Nat) (lf+1:Nat));show u3 o2 rfl ?_;show u3 o2 rfl ?_;refine S1 c2 rfl (by simp[gU];omega) ?_;rw[Nz (n:=lf+1) (λz=>by have:=dO _ z;omega)];left;have o3:=c7 o2 n4 (o':=O.cg (gU (fs++[(lf+1,v,u)])));refine u3 o3 rfl ?_;exact h e _ (((Ex.fl (Ex.refl g)).set (.inl rfl) _).set (.inr (.inr rfl)) _) #[o3,c7 (c7 C.h n2) n3,get_set c2]
def Ul(hT:TE T)(C:fT g m hd cl lc lf hs fs)(inc:fh (nums fs))(n3:cl≠hd)(n4:cl≠m)(hn:fY (nums fs) v=false->E #["NoFact"] g)(h:∀n x g',v=(n:Nat)->(n,x)∈fs->Fl m hd cl g g'->fT g' m hd cl lc lf hs (M1 fs n)->Q (pD x) g'):b7 T (k+2) 218 [.ref m,.int v] g Q E:=by
 refine call_of hT.CM rfl ?_;delta U4;show K0 (k:=k) hT.tc.nf ?_;show u3 C.o rfl ?_;show J6 (tE (f:=pD) C.c ?_);left;by_cases hv:fY (nums fs) v=true
 ·refine ei (by rw[hv];rfl) ?_;let#[n,x,rfl,hp]:=O6 hv;show u3 C.o rfl ?_;show#[xj C.c,?_];show xC C.c rfl (p8 (f:=pD) inc hp) ?_;rw[show delD (gU fs) (kC n)=gU (M1 fs n) from xH (f:=pD) fs n];exact h n x _ rfl hp ((Ex.fl (Ex.refl g)).set (.inr (.inr rfl)) _) #[c7 C.o n4,c7 C.h n3,get_set C.c]
 ·have hv:=bo.mpr hv;refine eM (by rw[hv];rfl) ?_;left;exact hn hv
end
structure Sd where
 lc:Nat
 lf:Nat
 hs:Hs
 fs:Fs
abbrev nG(hs:Hs)(fs:Fs):Prop:=∀f∈fs,f.2.1≠f.2.2/\(∃n∈nums hs,f.2.1=(n:Nat))/\∃n∈nums hs,f.2.2=(n:Nat)
structure jU(s:Sd):Prop where
 K:ij s.hs
 lt:∀j∈nums s.hs,j<=s.lc
 inc:fh (nums s.fs)
 rR:∀j∈nums s.fs,j<=s.lf
 fl:s.fs.length<=s.lf
 inf:nG s.hs s.fs
inductive jO where
 |val (d:D)|lst (l:List Nat)
abbrev jO.at(lo:Nat)(g:G)(y:D):jO->Prop
 |.val d=>y=d
 |.lst l=>∃r,y=.ref r/\lo<=r/\g[r]?=some (.lst (b0 l))
abbrev jO.ok:jO->Prop
 |.val d=>∀g,u5 g 2 d d
 |.lst l=>l.length<=1000
def u5.up{x}(h:u5 g n x y):u5 g (n+1) x y:=by
 induction h with
 |br=>exact .br
 |bl b=>exact .bl b
 |int i=>exact .int i
 |str x=>exact .str x
 |tup hl h hz ih=>exact .tup hl ih hz
 |lst ha hb hl h hz ih=>exact .lst ha hb hl ih hz
def zU(ms:List Int)(hz:ms.length<=1000):u5 g (n+1) (.tup (ms.map .int)) (.tup (ms.map .int)):=by
 refine .tup rfl (λi x y hx hy=>?_) (by simpa using hz);rw[hx] at hy;cases hy;rw[ah,aa] at hx;let#[j,_,rfl]:=hx;exact .int _
def zT(h:lF c):u5 g 2 c.d c.d:=by
 have h1:=h.l8;have h2:=h.u8;refine .tup rfl (λi x y hx hy=>?_) #[_];rw[hx] at hy;cases hy
 match i,hx with
 |0,hx=>cases hx;exact .int _
 |1,hx=>cases hx;exact zU _ ()
 |2,hx=>cases hx;exact .int _
 |3,hx=>cases hx;exact zU _ ()
 |4,hx=>cases hx;exact .int _
 |i+5,hx=>simp at hx
section
variable{T:Nat->Option aR}{d:Nat}
def a25(O1:ij hs)(ha:g[a]?=some (.lst ((d8 hs).map a9.d)))(hb:g[b]?=some (.lst ((d8 hs).map a9.d))):u5 g 3 (.ref a) (.ref b):=by
 refine .lst ha hb rfl (λi x y hx hy=>?_) (by have:=O1.len;simp[d8];omega);rw[hx] at hy;cases hy;rw[ah,aa] at hx;let#[c,hc,rfl]:=hx;let#[p,hp,rfl]:=ao.mp (aJ hc);exact zT (O1.good p hp)
def Oe(ha:g[a]?=some (.lst (b0 l)))(hb:g[b]?=some (.lst (b0 l)))(hz:l.length<=1000):u5 g 1 (.ref a) (.ref b) :=
 WZ ha hb (λx hx=>by let#[i,_,rfl]:=ao.mp hx;exact .inl #[_,rfl]) (by simpa[b0] using hz)
def jO.Kq{an:jO}(ok:an.ok){lo l2:Nat}{y2:D}(h:an.at lo g y)(h2:an.at l2 g y2):u5 g 2 y y2:=by
 cases an with
 |val d=>rw[show y=d from h,show y2=d from h2];exact ok g
 |lst l =>
  let#[r,rfl,_,e]:=h;let#[r2,rfl,_,e2]:=h2;exact(Oe e e2 ok).up
def YH(hT:TE T)(B:hX g q qc qf gv lr hs fs)(O1:ij hs)(dO:∀n∈nums hs,n<=gv)(n2:q≠qc)(n3:qf≠qc)(n4:qf≠q)(hn:E1 hs c≠""->∀g',Ex g g'->Q (.tup [.str (E1 hs c),.br]) g')(h:E1 hs c=""->∀g',Fl q qc qf g g'->hX g' q qc qf (gv+1) lr (hs++[(gv+1,c)]) fs->Q (.tup [.str "",.int (gv+1:Nat)]) g'):b7 T (k+3) 197 [.ref q,c.d] g Q E:=by
 have hz:=O1.len;refine call_of hT.td.De rfl ?_;delta GG;show KP (k:=k) (d:=g.length) hT.td.h8 hT.td.yY λg1 G1 _=>?_;have e1:=Ex.Ku G1;have B1:=B.at e1;left;by_cases hc:j5 c=true
 ·refine ei (by rw[hc];rfl) ?_;show m8 B1.b rfl L9 ?_;refine GB B1.c ?_;left;rw[fZ,ai];refine if2 (λz=>?_) (λz=>?_)
  ·have e:E1 hs c="Full":=by unfold E1;rw[az (by rw[hc];decide),aH ()]
   rw[e] at hn;left;exact hn #[] _ e1
  have e:E1 hs c="":=by unfold E1;rw[az (by rw[hc];decide),az ()]
  show m8 B1.b rfl Ef ?_;show S1 B1.b rfl (by simp[P4]) ?_;have b2:=get_set B1.b (o':=O.cg (P4 qc qf (gv+1) lr));have c2:=c7 B1.c n2 (o':=O.cg (P4 qc qf (gv+1) lr));show m8 b2 rfl L9 ?_;show m8 b2 rfl Ef ?_;refine S1 c2 rfl (by simp[fZ];omega) ?_;rw[NA (n:=gv+1) (λz=>by have:=dO _ z;omega)];have b3:=c7 b2 (aZ n2) (o':=O.cg (fZ (hs++[(gv+1,c)])));show m8 b3 rfl Ef ?_;left;exact h e _ (((Ex.fl e1).set (.inl rfl) _).set (.inr (.inl rfl)) _) #[b3,get_set c2,c7 (c7 B1.f (aZ n4)) (aZ n3)]
 ·have hc:=bo.mpr hc;have e:E1 hs c="BadCoin":=by unfold E1;rw[aH hc]
  rw[e] at hn;refine eM (by rw[hc];rfl) ?_;left;exact hn #[] _ e1
def drop_eq{f}(h:fs[i]?=some f):fs.drop i=f::fs.drop (i+1):=by
 let#[hi,e]:=aw.mp h;rw[eA hi,e]
abbrev Q5(fs:Fs)(v:Int)(i:Nat):Fs:=(fs.take i).filter (J5 v)++fs.drop i
def UN(fs:Fs)(v:Int)(i:Nat):(Q5 fs v i).Sublist fs:=by
 conv=>rhs;rw[<- iQ i fs]
 exact List.Sublist.append dA (List.Sublist.refl _)
def UM{f}(h:fs[i]?=some f):f∈Q5 fs v i:=bQ _ (by rw[drop_eq h];simp)
def WN{f}(h:fs[i]?=some f)(hk:J5 v f=true):Q5 fs v (i+1)=Q5 fs v i:=by
 unfold Q5;rw[drop_eq h,bh,h];simp[hk]
def WM{f}(inc:fh (nums fs))(h:fs[i]?=some f)(hk:J5 v f=false):M1 (Q5 fs v i) f.1=Q5 fs v (i+1):=by
 let#[hi,e]:=aw.mp h;have pw:=da.mp (cF.mp inc);unfold Q5 M1;rw[drop_eq h,bh,h,cA,dE];simp only[ne_eq,not_true,decide_false,Bool.false_eq_true,if_false,Option.toList_some,List.filter_append,List.filter_cons,hk,List.filter_nil,List.append_nil]
 congr 1
 ·refine fV.mpr λp hp=>aE λz=>?_;let#[j,hj,e2]:=eF (aS.mp hp).1;rw[bG] at hj;have:=pw j i () hi ();rw[kB] at e2;rw[e,e2] at this;omega
 ·refine fV.mpr λp hp=>aE λz=>?_;let#[j,hj,e2]:=eF hp;rw[lJ] at hj;have:=pw i (i+1+j) hi () ();rw[List.getElem_drop] at e2;rw[e,e2] at this;omega
def YG(hT:TE T)(B:hX g q qc qf gv lr hs fs)(O1:ij hs)(inc:fh (nums fs))(hf:fs.length<=50)(n2:q≠qc)(n3:qf≠qc)(n4:qf≠q)(hn:fY (nums hs) v=false->Q (.tup [.str "NoCoin",.br]) g)(h:∀n x g',v=(n:Nat)->(n,x)∈hs->Fl q qc qf g g'->hX g' q qc qf gv lr (M1 hs n) (fs.filter (J5 v))->Q (.tup [.str "",x.d]) g'):b7 T (k+1) 198 [.ref q,.int v] g Q E:=by
 refine call_of hT.Dd rfl ?_;delta GF;show m8 B.b rfl L9 ?_;show J6 (tE (f:=a9.d) B.c ?_);left;by_cases hv:fY (nums hs) v=true
 case neg =>
  have hv:=bo.mpr hv;refine eM (by rw[hv];rfl) ?_;left;exact hn hv
 refine ei (by rw[hv];rfl) ?_;let#[n,x,rfl,hp]:=O6 hv;show K4 (a8 T _) (iH (a8 T _) ?_);show m8 B.b rfl pT ?_;show tm B.f (by simp[gU];omega) ?_;rw[ER];show G9 b8 inc (by rw[K6];exact hf) ?_;have e1:=(Ex.snoc g (O.lst (b0 (nums fs)))).trans (Ex.snoc _ (O.lst (b0 (nums fs))));have s1:=b8 (g:=g++[O.lst (b0 (nums fs))]) (o:=O.lst (b0 (nums fs)));have l1:g.length<(g++[O.lst (b0 (nums fs))]).length:=by simp
 generalize (g++[O.lst (b0 (nums fs))]).length=sr at *;generalize (g++[O.lst (b0 (nums fs))])++[O.lst (b0 (nums fs))]=g1 at *;have lq:=i8 B.f;refine#[sr,_,rfl,a7 s1,b0 (nums fs),λi Z g'=>(∃z,Z=[some (.ref q),some (.int (n:Nat)),z])/\Fl q qc qf g g'/\g'[sr]?=some (.lst (b0 (nums fs)))/\hX g' q qc qf gv lr hs (Q5 fs (n:Nat) i),λi Z g' p=>n9 (a7 p.2.2.1),#[#[none,rfl],Ex.fl e1,s1,?_],λi y Z g' hy p=>?_,λZ g' p=>?_]
 ·rw[show Q5 fs (n:Nat) 0=fs by simp[Q5]];exact B.at e1
 ·let#[#[z,rfl],F2,s2,B2]:=p;rw[b0,ah,aa] at hy;let#[j,hj,rfl]:=hy;rw[nums,ah,aa] at hj;let#[#[j',x1,x2],wj,rfl]:=hj;have Bv:=inc.sub (UN fs (n:Nat) i);have vm:=p8 (f:=pD) Bv (UM (v:=(n:Nat)) wj);refine j9 ?_
  try show wpS _ _ _ _ _ _
  show m8 B2.b rfl pT ?_;show m8 B2.f rfl vm ?_;show qN (U8 (ms:=[x1,x2]) rfl ?_);left;by_cases hk:J5 (n:Nat) (j',x1,x2)=true
  ·refine ei (ax λz=>?_) ?_
   ·unfold J5 at hk;simp at hk z;omega
   show#[#[_,rfl],F2,s2,?_];rw[WN wj hk];exact B2
  ·have hk:=bo.mpr hk;refine eM (aE ?_) ?_
   ·unfold J5 at hk;simp at hk ⊢;omega
   show m8 B2.b rfl pT ?_;show#[xj B2.f,?_];show xC B2.f rfl vm ?_;rw[show delD (gU (Q5 fs (n:Nat) i)) (kC j')=gU (M1 (Q5 fs (n:Nat) i) j') from xH (f:=pD) _ _,WM inc wj hk];exact#[#[_,rfl],F2.set (.inr (.inr rfl)) _,c7 s2 (),c7 B2.b n4,c7 B2.c n3,get_set B2.f]
 ·let#[#[z,rfl],F2,s2,B2]:=p;rw[show Q5 fs (n:Nat) (b0 (nums fs)).length=fs.filter (J5 (n:Nat)) by simp[Q5,b0,nums]] at B2
  try show wpS _ _ _ _ _ _
  show m8 B2.b rfl L9 ?_;show#[xj B2.c,?_];show xC B2.c rfl (p8 (f:=a9.d) O1.inc hp) ?_;rw[show delD (fZ hs) (kC n)=fZ (M1 hs n) from xH (f:=a9.d) hs n];left;exact h n x _ rfl hp (F2.set (.inr (.inl rfl)) _) #[c7 B2.b (aZ n2),get_set B2.c,c7 B2.f (aZ n3)]
def bE6(hT:TE T)(B:hX g q qc qf gv lr hs fs)(dO:∀n∈nums fs,n<=lr)(hf:fs.length<1000)(n2:q≠qc)(n3:qf≠qc)(n4:qf≠q)(hn:x6 hs v u≠""->Q (.tup [.str (x6 hs v u),.br]) g)(h:x6 hs v u=""->∀g',Fl q qc qf g g'->hX g' q qc qf gv (lr+1) hs (fs++[(lr+1,v,u)])->Q (.tup [.str "",.int (lr+1:Nat)]) g'):b7 T (k+1) 199 [.ref q,.int v,.int u] g Q E:=by
 refine call_of hT.Dc rfl ?_;delta FE;have no:(fY (nums hs) v=false\/fY (nums hs) u=false)->Q (.tup [.str "NoCoin",.br]) g:=λz=>by
  have e:x6 hs v u="NoCoin":=by unfold x6;rw[aH z]
  rw[e] at hn;exact hn #[]
 show m8 B.b rfl L9 ?_;refine J6 (tE (f:=a9.d) B.c ?_);left;by_cases h1:fY (nums hs) v=true
 case neg =>
  have h1:=bo.mpr h1;refine eM (by rw[h1];rfl) ?_;left;exact no (.inl h1)
 refine ei (by rw[h1];rfl) ?_;show m8 B.b rfl L9 ?_;refine J6 (tE (f:=a9.d) B.c ?_);left;by_cases h2:fY (nums hs) u=true
 case neg =>
  have h2:=bo.mpr h2;refine eM (by rw[h2];rfl) ?_;left;exact no (.inr h2)
 refine ei (by rw[h2];rfl) ?_;have nn:¬(fY (nums hs) v=false\/fY (nums hs) u=false):=by rw[h1,h2];decide
 show if2 (λz=>?_) (λz=>?_)
 ·have e:x6 hs v u="SameOne":=by unfold x6;rw[az nn,aH z]
  rw[e] at hn;left;exact hn #[]
 have e:x6 hs v u="":=by unfold x6;rw[az nn,az z]
 show m8 B.b rfl Eg ?_;show S1 B.b rfl (by simp[P4]) ?_;have b2:=get_set B.b (o':=O.cg (P4 qc qf gv (lr+1)));have f2:=c7 B.f (aZ n4) (o':=O.cg (P4 qc qf gv (lr+1)));show m8 b2 rfl pT ?_;show m8 b2 rfl Eg ?_;refine S1 f2 rfl (by simp[gU];omega) ?_;rw[Nz (n:=lr+1) (λz=>by have:=dO _ z;omega)];have b3:=c7 b2 n4 (o':=O.cg (gU (fs++[(lr+1,v,u)])));show m8 b3 rfl Eg ?_;left;exact h e _ (((Ex.fl (Ex.refl g)).set (.inl rfl) _).set (.inr (.inr rfl)) _) #[b3,c7 (c7 B.c n2) n3,get_set f2]
end
structure Ad(d m hd cl q qc qf:Nat):Prop where
 h:d<m/\m<hd/\hd<q/\q<qc/\qc<qf/\d<cl/\cl≠m/\cl≠hd/\cl≠q/\cl≠qc/\cl≠qf
structure Wd(g:G)(d m hd cl q qc qf:Nat)(s:Sd):Prop where
 dr:n6 g d
 C:fT g m hd cl s.lc s.lf s.hs s.fs
 B:hX g q qc qf s.lc s.lf s.hs s.fs
 K:jU s
 A:Ad d m hd cl q qc qf
abbrev Kf(T:Nat->Option aR)(k:Nat)(g:G)(m hd cl:Nat)(dd:D)(e:Str)(an:jO)(s':Sd):Prop:=∀(Q:KD) (E:KX),(e≠""->∀g',Ex g g'->E #[e] g') ->
 (e=""->∀g' y js,Fl m hd cl g g'->(js=cl\/g.length<=js)->fT g' m hd js s'.lc s'.lf s'.hs s'.fs->jO.at g.length g' y an->Q y g')->b7 T (k+10) 205 [.ref m,dd] g Q E
abbrev SJ(T:Nat->Option aR)(k:Nat)(g:G)(q qc qf:Nat)(dd:D)(e:Str)(an:jO)(s':Sd):Prop:=∀(Q:KD) (E:KX),(e≠""->∀g',Ex g g'->Q (.tup [.str e,.br]) g') ->
 (e=""->∀g' y,Fl q qc qf g g'->hX g' q qc qf s'.lc s'.lf s'.hs s'.fs->jO.at g.length g' y an->Q (.tup [.str "",y]) g')->b7 T (k+11) 204 [.ref q,dd] g Q E
inductive Step(T:Nat->Option aR)(k:Nat)(g:G)(m hd cl q qc qf:Nat)(s:Sd)(Wo:Str->Prop)(dd:D):Prop
 |mk (e:Str) (an:jO) (s':Sd) (ok:an.ok) (K:e=""->jU s') (l:s'.lf<=s.lf+1) (hw:Wo e) (hc:Kf T k g m hd cl dd e an s') (hb:∀g1,Fl m hd cl g g1->hX g1 q qc qf s.lc s.lf s.hs s.fs->SJ T k g1 q qc qf dd e an s'):Step T k g m hd cl q qc qf s Wo dd
def Step.any{T}{s}{Wo}(S:Step T k g m hd cl q qc qf s Wo dd):Step T k g m hd cl q qc qf s (λ_=>True) dd:=let ⟨e,an,s',a,b,c,_,h1,h2⟩:=S;#[e,an,s',a,b,c,trivial,h1,h2]
abbrev pW(e:Str):Prop:=e="BadCoin"\/e="Full"\/e="NoCoin"\/e=""
abbrev AD(e:Str):Prop:=pW e\/e="SameOne"\/e="NoFact"
def a67(hs:Hs)(v u:Int):AD (x6 hs v u):=by
 unfold x6;split
 ·exact .inl (.inr (.inr (.inl rfl)))
 ·split
  ·exact .inr (.inl rfl)
  ·exact .inl (.inr (.inr (.inr rfl)))
def VI(hs:Hs)(c:a9):pW (E1 hs c):=by
 unfold E1 pW;split
 ·simp
 ·split<;>simp
def a06(hs:Hs)(v:Int)(c:a9):pW (v7 hs v c):=by
 unfold v7 pW;split
 ·simp
 ·split<;>simp
def Tq(h:E1 hs c=""):j5 c=true/\hs.length≠9:=by
 unfold E1 at h;split at h
 ·exact absurd h #[]
 ·rename_i c1;split at h
  ·exact absurd h #[]
  ·rename_i c2;exact#[by simpa using c1,c2]
def nG.more{h2:Hs}(h:nG hs fs)(a:∀n∈nums hs,n∈nums h2):nG h2 fs:=λf hf =>
 let ⟨d,⟨n,h1,e1⟩,m,h2,e2⟩:=h f hf
 #[d,#[n,a n h1,e1],m,a m h2,e2]
def nG.out(h:nG hs fs):nG (M1 hs n) (fs.filter (J5 (n:Nat))):=λf hf=>by
 let#[h1,h2]:=aS.mp hf;let#[d,#[a,ha,ea],b,hb,eb]:=h f h1;simp only[J5,Bool.not_eq_true',Bool.or_eq_false_iff,decide_eq_false_iff_not] at h2;have keep:∀x:Nat,x∈nums hs->((x:Nat):Int)≠n->x∈nums (M1 hs n):=λx hx ne=>by
  let#[p,hp,rfl]:=ao.mp hx;exact ao.mpr #[p,aS.mpr #[hp,aE λz=>ne (by rw[z])],rfl]
 exact#[d,#[a,keep a ha (by rw[<- ea];exact h2.1),ea],b,keep b hb (by rw[<- eb];exact h2.2),eb]
def jU.put{s}(K:jU s)(hB:CB c)(h:E1 s.hs c=""):jU #[s.lc+1,s.lf,s.hs++[(s.lc+1,c)],s.fs]:=by
 let#[hg,h9]:=Tq h;have hz:=K.K.len;refine#[#[?_,by simp;omega,λp hp=>?_],λj hj=>?_,K.inc,K.rR,K.fl,K.inf.more λn hn=>by unfold nums at hn ⊢;rw[bE];exact eh _ hn]
 ·unfold nums fh;rw[bE,fK];refine#[K.K.inc,by simp,λx hx y hy=>?_];have:=K.lt x hx;simp at hy;omega
 ·rcases bD.mp hp with z|z
  ·exact K.K.good p z
  ·rw[ba.mp z];exact#[hg,hB.1,hB.2]
 ·unfold nums at hj;rw[bE] at hj;rcases bD.mp hj with z|z
  ·exact kA (K.lt j z)
  ·simp at z;change j<=s.lc+1;omega
def jU.sub{s}(K:jU s){h2}{f2}(a:h2.Sublist s.hs)(b:f2.Sublist s.fs)(i:nG h2 f2):jU #[s.lc,s.lf,h2,f2] :=
 #[#[K.K.inc.sub a,aD a.length_le K.K.len,λp hp=>K.K.good p (a.subset hp)],λj hj=>K.lt j ((a.map _).subset hj),K.inc.sub b,λj hj=>K.rR j ((b.map _).subset hj),aD b.length_le K.fl,i]
def jU.same{s}(K:jU s){h2}(O2:ij h2)(e:nums h2=nums s.hs):jU #[s.lc,s.lf,h2,s.fs]:=#[O2,λj hj=>K.lt j (e▸hj),K.inc,K.rR,K.fl,K.inf.more λn hn=>e▸hn]
def jU.tell{s}(K:jU s)(h:x6 s.hs v u=""):jU #[s.lc,s.lf+1,s.hs,s.fs++[(s.lf+1,v,u)]]:=by
 have ht:fY (nums s.hs) v=true/\fY (nums s.hs) u=true/\v≠u:=by
  unfold x6 at h;split at h
  ·exact absurd h ∅
  ·rename_i hn;split at h
   ·exact absurd h ∅
   ·rename_i hv;simp only[not_or,Bool.not_eq_false] at hn;exact#[hn.1,hn.2,hv]
 refine#[K.K,K.lt,?_,λj hj=>?_,by have:=K.fl;simp;omega,λf hf=>?_]
 rotate_right
 ·rcases bD.mp hf with z|z
  ·exact K.inf f z
  ·rw[ba.mp z];exact#[ht.2.2,U9.mp ht.1,U9.mp ht.2.1]
 ·unfold nums fh;rw[bE,fK];refine#[K.inc,by simp,λx hx y hy=>?_];have:=K.rR x hx;simp at hy;omega
 ·unfold nums at hj;rw[bE] at hj;rcases bD.mp hj with z|z
  ·exact kA (K.rR j z)
  ·simp at z;change j<=s.lf+1;omega
def uniq{f:α->D}{hs:List (Nat×α)}(inc:fh (nums hs)){n':Nat}{x x'}(h:(n,x)∈hs)(h':(n',x')∈hs)(e:((n:Nat):Int)=(n':Nat)):n=n'/\f x=f x':=by
 have:n=n':=by omega
 subst this;exact#[rfl,aG ((p8 (f:=f) inc h).symm.trans (p8 (f:=f) inc h'))]
def Xa(x:Int×Int):u5 g 2 (pD x) (pD x):=zU (n:=1) [x.1,x.2] #[_]
def TM(O1:ij hs)(hg:lF c):ij (nD hs n c)/\nums (nD hs n c)=nums hs:=by
 have e:nums (nD hs n c)=nums hs:=Nv λp=>by split<;>rfl
 refine#[#[by rw[e];exact O1.inc,by simpa[nD] using O1.len,λp hp=>?_],e];let#[p,h1,rfl]:=ao.mp hp;split
 ·exact hg
 ·exact O1.good p h1
def Lj(x:Str):(x≠"lower"/\x≠"upper")\/∃w:RW,w≠.dR/\x=w.s:=by
 by_cases h1:x="lower"
 ·exact .inr #[.lower,(λz=>by cases z),h1]
 ·by_cases h2:x="upper"
  ·exact .inr #[.upper,(λz=>by cases z),h2]
  ·exact .inl #[h1,h2]
def Nj(O1:ij hs)(h:numsOf hs f v≠[]):1<=v/\v<=99:=by
 have:=N6.mpr h;unfold q9 d8 at this;rw[aX] at this;let#[p,hp,rfl]:=ao.mp this;let#[a1,_,a3,_]:=(O1.good p hp).inv;change 1<=H9 f p.2/\H9 f p.2<=99;unfold H9;split
 ·exact a1
 ·exact a3
section
variable{T:Nat->Option aR}{d:Nat}{s:Sd}
def Wd.box(W:Wd g d m hd cl q qc qf s){g1}(F:Fl m hd cl g g1):hX g1 q qc qf s.lc s.lf s.hs s.fs:=by
 have:=W.A.h;exact#[F.at () W.B.b,F.at () W.B.c,F.at () W.B.f]
def NJ(hT:TE T)(W:Wd g d m hd cl q qc qf s)(hB:CB c):Step T k g m hd cl q qc qf s pW (.tup [.str "put",c.d]):=by
 have ad:=W.A.h;refine#[E1 s.hs c,.val (.int (s.lc+1:Nat)),#[s.lc+1,s.lf,s.hs++[(s.lc+1,c)],s.fs],λ_=>.int _,W.K.put hB,by simp,VI _ _,λQ E hn h=>?_,λg1 F B Q E hn h=>?_]
 ·refine call_of hT.kS rfl ?_;delta E3;show eM #[] ?_;show i0 W.C.o rfl rfl ?_;left;exact b72 (k:=k+3) hT.tc W.C W.K.K W.K.lt () () () (λz=>hn z _ (Ex.refl g)) λe _ _ g' F' C'=>h e g' _ cl F' (.inl rfl) C' rfl
 ·refine call_of hT.kT rfl ?_;delta pQ;show eM #[] ?_;left;exact YH (k:=k+7) hT B W.K.K W.K.lt () () () hn λe g' F' B'=>h e g' _ F' B' rfl
def aZ8(hT:TE T)(W:Wd g d m hd cl q qc qf s)(hB:CB c):Step T k g m hd cl q qc qf s pW (.tup [.str "right",.int v,c.d]):=by
 have ad:=W.A.h;have O1:=W.K.K;have hz:=O1.len;obtain⟨an,s',ok,K',l',key⟩:∃(an:jO) (s':Sd),an.ok/\(v7 s.hs v c=""->jU s')/\s'.lf<=s.lf+1/\∀n x,v=(n:Nat)->(n,x)∈s.hs->an=.val x.d/\s'=#[s.lc,s.lf,nD s.hs n c,s.fs]:=by
  by_cases hv:fY (nums s.hs) v=true
  ·let#[n,x,rfl,hp]:=O6 hv;refine#[.val x.d,#[s.lc,s.lf,nD s.hs n c,s.fs],λ_=>zT (O1.good _ hp),λz=>?_,by simp,λn' x' e iu=>?_]
   ·have hg:j5 c=true:=by
     unfold v7 at z;rw[az (by rw[hv];decide)] at z;split at z
     ·exact absurd z #[]
     ·rename_i hc;simpa using hc
    have:=TM (n:=n) O1 (c:=c) #[hg,hB.1,hB.2];exact W.K.same this.1 this.2
   ·let#[rfl,e2]:=uniq (f:=a9.d) O1.inc hp iu e;exact#[by rw[e2],rfl]
  ·refine#[.val .br,s,λ_=>.br,λz=>?_,by omega,λn x e hp=>absurd (U9.mpr #[n,ao.mpr #[_,hp,rfl],e]) hv];unfold v7 at z;rw[aH (bo.mpr hv)] at z;exact absurd z #[]
 refine#[v7 s.hs v c,an,s',ok,K',l',a06 _ _ _,λQ E hn h=>?_,λg1 F B Q E hn h=>?_]
 ·refine call_of hT.kS rfl ?_;delta E3;show ei #[] ?_;show eM #[] ?_;show i0 W.C.o rfl rfl ?_;show ZY (k:=k+3) hT W.C O1 () () (λz=>hn z _ (Ex.refl g)) λe _ n x g' ev hp F' C'=>?_;let#[rfl,rfl]:=key n x ev hp;exact h e g' _ cl F' (.inl rfl) C' rfl
 ·refine call_of hT.kT rfl ?_;delta pQ;show ei #[] ?_;show eM #[] ?_;show m8 B.b rfl L9 ?_;refine J6 (tE (f:=a9.d) B.c ?_);left;by_cases hv:fY (nums s.hs) v=true
  case neg =>
   have hv:=bo.mpr hv;have e:v7 s.hs v c="NoCoin":=by unfold v7;rw[aH hv]
   rw[e] at hn;refine eM (by rw[hv];rfl) ?_;left;exact hn #[] _ (Ex.refl _)
  refine ei (by rw[hv];rfl) ?_;let#[n,x,rfl,hp]:=O6 hv;show KP (k:=k+8) (d:=g1.length) hT.td.h8 hT.td.yY λg2 G2 _=>?_;have e2:=Ex.Ku G2;have B2:=B.at e2;left;by_cases hc:j5 c=true
  case neg =>
   have hc:=bo.mpr hc;have e:v7 s.hs n c="BadCoin":=by unfold v7;rw[az (by rw[hv];decide),aH hc]
   rw[e] at hn;refine eM (by rw[hc];rfl) ?_;left;exact hn #[] _ e2
  refine ei (by rw[hc];rfl) ?_;have e:v7 s.hs n c="":=by unfold v7;rw[az (by rw[hv];decide),az (by rw[hc];decide)]
  let#[rfl,rfl]:=key n x rfl hp;show m8 B2.b rfl L9 ?_;show m8 B2.c rfl (p8 (f:=a9.d) O1.inc hp) ?_;show m8 B2.b rfl L9 ?_;show S1 B2.c rfl (by simp[fZ];omega) ?_;rw[zC (ao.mpr #[_,hp,rfl])];left;exact h e _ _ ((Ex.fl e2).set (.inr (.inl rfl)) _) #[c7 B2.b (),get_set B2.c,c7 B2.f ()] rfl
def We(hT:TE T)(W:Wd g d m hd cl q qc qf s)(hf:s.fs.length<=50):Step T k g m hd cl q qc qf s pW (.tup [.str "out",.int v]):=by
 have ad:=W.A.h;have O1:=W.K.K;obtain⟨e,an,s',ok,K',l',Pw,no,key⟩:∃(e:Str) (an:jO) (s':Sd),an.ok/\(e=""->jU s')/\s'.lf<=s.lf+1/\pW e/\(fY (nums s.hs) v=false->e="NoCoin")/\∀n x,v=(n:Nat)->(n,x)∈s.hs->e=""/\an=.val x.d/\s'=#[s.lc,s.lf,M1 s.hs n,s.fs.filter (J5 v)]:=by
  by_cases hv:fY (nums s.hs) v=true
  ·let#[n,x,rfl,hp]:=O6 hv;refine#["",.val x.d,#[s.lc,s.lf,M1 s.hs n,s.fs.filter (J5 (n:Nat))],λ_=>zT (O1.good _ hp),λ_=>W.K.sub dA dA W.K.inf.out,by simp,.inr (.inr (.inr rfl)),λz=>(by rw[hv] at z;cases z),λn' x' e iu=>?_];let#[rfl,e2]:=uniq (f:=a9.d) O1.inc hp iu e;exact#[rfl,by rw[e2],rfl]
  ·exact#["NoCoin",.val .br,s,λ_=>.br,λz=>absurd z #[],by omega,.inr (.inr (.inl rfl)),λ_=>rfl,λn x e hp=>absurd (U9.mpr #[n,ao.mpr #[_,hp,rfl],e]) hv]
 refine#[e,an,s',ok,K',l',Pw,λQ E hn h=>?_,λg1 F B Q E hn h=>?_]
 ·refine call_of hT.kS rfl ?_;delta E3;left
  iterate 2 (refine ei #[] ?_;left)
  refine eM #[] ?_;show i0 W.C.o rfl rfl ?_;show b74 (k:=k+6) hT W.C O1 W.K.inc () () () (λz=>?_) λn x g' ev hp F' C'=>?_
  ·obtain rfl:=no z;exact hn #[] _ (Ex.refl g)
  ·let#[rfl,rfl,rfl]:=key n x ev hp;exact h rfl g' _ g.length F' (.inr (av _)) C' rfl
 ·refine call_of hT.kT rfl ?_;delta pQ;left
  iterate 2 (refine ei #[] ?_;left)
  refine eM #[] ?_;show YG (k:=k+9) hT B O1 W.K.inc hf () () () (λz=>?_) λn x g' ev hp F' B'=>?_
  ·obtain rfl:=no z;exact hn #[] _ (Ex.refl g1)
  ·let#[rfl,rfl,rfl]:=key n x ev hp;exact h rfl g' _ F' B' rfl
def a71(hT:TE T)(W:Wd g d m hd cl q qc qf s)(hf:s.fs.length<=50):Step T k g m hd cl q qc qf s AD (.tup [.str "tell",.int v,.int u]):=by
 have ad:=W.A.h;refine#[x6 s.hs v u,.val (.int (s.lf+1:Nat)),#[s.lc,s.lf+1,s.hs,s.fs++[(s.lf+1,v,u)]],λ_=>.int _,λh0=>W.K.tell h0,by simp,a67 _ _ _,λQ E hn h=>?_,λg1 F B Q E hn h=>?_]
 ·refine call_of hT.kS rfl ?_;delta E3;left
  iterate 3 (refine ei #[] ?_;left)
  refine eM #[] ?_;show i0 W.C.o rfl rfl ?_;left;exact Yo (k:=k+5) hT W.C W.K.rR () () () () (λz=>hn z _ (Ex.refl g)) λe g' F' C'=>h e g' _ cl F' (.inl rfl) C' rfl
 ·refine call_of hT.kT rfl ?_;delta pQ;left
  iterate 3 (refine ei #[] ?_;left)
  refine eM #[] ?_;left;exact bE6 (k:=k+9) hT B W.K.rR () () () () (λz=>hn z _ (Ex.refl g1)) λe g' F' B'=>h e g' _ F' B' rfl
def aR6(hT:TE T)(W:Wd g d m hd cl q qc qf s):Step T k g m hd cl q qc qf s AD (.tup [.str "untell",.int v]):=by
 have ad:=W.A.h;obtain⟨e,an,s',ok,K',l',qu,no,key⟩:∃(e:Str) (an:jO) (s':Sd),an.ok/\(e=""->jU s')/\s'.lf<=s.lf+1/\AD e/\(fY (nums s.fs) v=false->e="NoFact")/\∀n x,v=(n:Nat)->(n,x)∈s.fs->e=""/\an=.val (pD x)/\s'=#[s.lc,s.lf,s.hs,M1 s.fs n]:=by
  by_cases hv:fY (nums s.fs) v=true
  ·let#[n,x,rfl,hp]:=O6 hv;refine#["",.val (pD x),#[s.lc,s.lf,s.hs,M1 s.fs n],λ_=>Xa x,λ_=>W.K.sub (List.Sublist.refl _) dA λf hf=>W.K.inf f (aS.mp hf).1,by simp,.inl (.inr (.inr (.inr rfl))),λz=>(by rw[hv] at z;cases z),λn' x' e iu=>?_];let#[rfl,e2]:=uniq (f:=pD) W.K.inc hp iu e;exact#[rfl,by rw[e2],rfl]
  ·exact#["NoFact",.val .br,s,λ_=>.br,λz=>absurd z #[],by omega,.inr (.inr rfl),λ_=>rfl,λn x e hp=>absurd (U9.mpr #[n,ao.mpr #[_,hp,rfl],e]) hv]
 refine#[e,an,s',ok,K',l',qu,λQ E hn h=>?_,λg1 F B Q E hn h=>?_]
 ·refine call_of hT.kS rfl ?_;delta E3;left
  iterate 4 (refine ei #[] ?_;left)
  refine eM #[] ?_;show i0 W.C.o rfl rfl ?_;show Ul (k:=k+7) hT W.C W.K.inc () () (λz=>?_) λn x g' ev hp F' C'=>?_
  ·obtain rfl:=no z;exact hn #[] _ (Ex.refl g)
  ·let#[rfl,rfl,rfl]:=key n x ev hp;exact h rfl g' _ cl F' (.inl rfl) C' rfl
 ·refine call_of hT.kT rfl ?_;delta pQ;left
  iterate 4 (refine ei #[] ?_;left)
  refine eM #[] ?_;show m8 B.b rfl pT ?_;show J6 (tE (f:=pD) B.f ?_);left;by_cases hv:fY (nums s.fs) v=true
  case neg =>
   have hv:=bo.mpr hv;obtain rfl:=no hv;refine eM (by rw[hv];rfl) ?_;left;exact hn #[] _ (Ex.refl _)
  refine ei (by rw[hv];rfl) ?_;let#[n,x,rfl,hp]:=O6 hv;let#[rfl,rfl,rfl]:=key n x rfl hp;show m8 B.b rfl pT ?_;show#[xj B.f,?_];show xC B.f rfl (p8 (f:=pD) W.K.inc hp) ?_;rw[show delD (gU s.fs) (kC n)=gU (M1 s.fs n) from xH (f:=pD) s.fs n];left;exact h rfl _ _ ((Ex.fl (Ex.refl g1)).set (.inr (.inr rfl)) _) #[c7 B.b (),c7 B.c (),get_set B.f] rfl
def bB5(hT:TC T)(ho:PyData.strOk x=true)(h1:x≠"lower")(h2:x≠"upper")(h:E #["BadSide"] g):b7 T (k+2) 219 [.ref m,.str x,.int v,.int u] g Q E:=by
 refine call_of hT.wF rfl ?_;delta O5;left;exact L5 hT.iZ.2 ho (λz=>z.elim (λz=>absurd z h1) λz=>absurd z h2) λ_ _=>h
def Uk(hT:TC T)(ho:PyData.strOk x=true)(h1:x≠"lower")(h2:x≠"upper")(h:E #["BadSide"] g):b7 T (k+2) 220 [.ref m,.str x,.int v,.ref a] g Q E:=by
 refine call_of hT.wD rfl ?_;delta M5;left;exact L5 hT.iZ.2 ho (λz=>z.elim (λz=>absurd z h1) λz=>absurd z h2) λ_ _=>h
def Me(hT:TE T)(W:Wd g d m hd cl q qc qf s)(h:b7 T (k+9) 219 [.ref m,.str x,.int v,.int u] g Q E):b7 T (k+10) 205 [.ref m,.tup [.str "one",.str x,.int v,.int u]] g Q E:=by
 refine call_of hT.kS rfl ?_;delta E3;left
 iterate 5 (refine ei #[] ?_;left)
 refine eM #[] ?_;show i0 W.C.o rfl rfl ?_;left;exact h
def Mf(hT:TE T)(W:Wd g d m hd cl q qc qf s)(ha:g[a]?=some (.lst (ns.map .int)))(h:b7 T (k+9) 220 [.ref m,.str x,.int v,.ref g.length] (g++[.lst (ns.map .int)]) Q E):b7 T (k+10) 205 [.ref m,.tup [.str "two",.str x,.int v,.ref a]] g Q E:=by
 refine call_of hT.kS rfl ?_;delta E3;left
 iterate 6 (refine ei #[] ?_;left)
 refine i0 W.C.o rfl rfl ?_;show GD (a7 ha) ?_;exact h
def Mc(hT:TE T)(h:b7 T (k+9) 202 [.ref q,.str x,.int v,.int u] g Q E):b7 T (k+10) 204 [.ref q,.tup [.str "one",.str x,.int v,.int u]] g Q E:=by
 refine call_of hT.kT rfl ?_;delta pQ;left
 iterate 5 (refine ei #[] ?_;left)
 refine eM #[] ?_;left;exact h
def Md(hT:TE T)(h:b7 T (k+9) 203 [.ref q,.str x,.int v,.ref a] g Q E):b7 T (k+10) 204 [.ref q,.tup [.str "two",.str x,.int v,.ref a]] g Q E:=by
 refine call_of hT.kT rfl ?_;delta pQ;left
 iterate 6 (refine ei #[] ?_;left)
 exact h
def Wc(hT:TE T)(W:Wd g d m hd cl q qc qf s)(ho:PyData.strOk x=true):Step T k g m hd cl q qc qf s (λ_=>True) (.tup [.str "one",.str x,.int v,.int u]):=by
 have ad:=W.A.h;have O1:=W.K.K;rcases Lj x with⟨x1,x2⟩|⟨w,hw,rfl⟩
 ·refine#["BadSide",.val .br,s,λ_=>.br,λz=>absurd z #[],by omega,trivial,λQ E hn h=>?_,λg1 F B Q E hn h=>?_]
  ·exact Me hT W (bB5 (k:=k+7) hT.tc ho x1 x2 (hn #[] _ (Ex.refl g)))
  ·exact Mc (k:=k+1) hT (YD (k:=k+8) hT.td ho x1 x2 (hn #[]))
 have K1:x8 s.hs (cu w) v u=""->ij (k9 s.hs (numsOf s.hs (cu w) u) (cu w) v):=λh0=>by
  have hv:=Nj (v:=v) O1 (f:=cu w) λz=>by
   have:x8 s.hs (cu w) v u="NoDie":=by unfold x8;rw[aH (.inl z)]
   rw[this] at h0;exact absurd h0 #[]
  exact O1.give hv.1 hv.2
 have nl:(numsOf s.hs (cu w) u).length<=1000:=aD (numsOf_len _ _ _) (by have:=O1.len;omega);refine#[x8 s.hs (cu w) v u,.lst (numsOf s.hs (cu w) u),#[s.lc,s.lf,k9 s.hs (numsOf s.hs (cu w) u) (cu w) v,s.fs],nl,λh0=>W.K.same (K1 h0) (F0 _ _ _ _),by simp,trivial,λQ E hn h=>?_,λg1 F B Q E hn h=>?_]
 ·exact Me hT W (FJ (k:=k+4) hT.tc hw W.C O1 () () hn λh0 g' r G1 l1 hr C1=>h h0 g' _ cl (G1.fl (.inr (.inl rfl))) (.inl rfl) C1 #[r,rfl,l1,hr])
 ·exact Mc (k:=k+1) hT (Uw (k:=k+8) hT.td hw B O1 () () hn λh0 g' r G1 l1 hr B1=>h h0 g' _ (G1.fl (.inr (.inl rfl))) B1 #[r,rfl,l1,hr])
def Wf(hT:TE T)(W:Wd g d m hd cl q qc qf s)(ho:PyData.strOk x=true)(ha:g[a]?=some (.lst (ns.map .int)))(hl:ns.length<=50)(na:a≠m/\a≠hd/\a≠cl/\a≠q/\a≠qc/\a≠qf):Step T k g m hd cl q qc qf s (λ_=>True) (.tup [.str "two",.str x,.int v,.ref a]):=by
 have ad:=W.A.h;have O1:=W.K.K;have e0:=Ex.snoc g (O.lst (ns.map D.int));have s0:=b8 (g:=g) (o:=O.lst (ns.map D.int));have lh:=i8 W.C.h;rcases Lj x with⟨x1,x2⟩|⟨w,hw,rfl⟩
 ·refine#["BadSide",.val .br,s,λ_=>.br,λz=>absurd z #[],by omega,trivial,λQ E hn h=>?_,λg1 F B Q E hn h=>?_]
  ·exact Mf hT W ha (Uk (k:=k+7) hT.tc ho x1 x2 (hn #[] _ e0))
  ·exact Md (k:=k+1) hT (YE (k:=k+8) hT.td ho x1 x2 (hn #[]))
 let#[F,hF]:=Mn (q9 s.hs (cu w));have Iw:=hF.le;have dl:(q9 s.hs (cu w)).length<=9:=by have:=O1.len;simpa[q9,d8] using this
 refine#[A7 s.hs (cu w) v ns,.val (.int F),#[s.lc,s.lf,k9 s.hs (ns.map Int.toNat) (cu w) F,s.fs],λ_=>.int _,λh0=>W.K.same (O1.give hF.pos ()) (F0 _ _ _ _),by simp,trivial,λQ E hn h=>?_,λg1 F1 B Q E hn h=>?_]
 ·refine Mf hT W ha (OM (k:=k+1) hT.tc hw (W.C.at e0) O1 () () s0 hl () hF (λz g' e'=>hn z g' (e0.trans e')) λh0 g' G1 C1=>?_);exact h h0 g' _ cl ((Ex.fl e0).trans (G1.fl (.inr (.inl rfl)))) (.inl rfl) C1 rfl
 ·exact Md (k:=k+1) hT (Ux (k:=k+8) hT.td hw B O1 () () (F1.at () ha) hl () hF hn λh0 g' G1 B1=>h h0 g' _ (G1.fl (.inr (.inl rfl))) B1 rfl)
end
section
variable{T:Nat->Option aR}{d:Nat}{c lc lf:Nat}
def a24(ha:g[a]?=some (.lst (fs.map λf=>.tup [.int (f.1:Nat),.int f.2.1,.int f.2.2])))(hb:g[b]?=some (.lst (fs.map λf=>.tup [.int (f.1:Nat),.int f.2.1,.int f.2.2])))(hz:fs.length<=1000):u5 g 2 (.ref a) (.ref b):=by
 refine .lst ha hb rfl (λi x y hx hy=>?_) (by simpa using hz);rw[hx] at hy;cases hy;rw[ah,aa] at hx;let#[f,_,rfl]:=hx;exact zU (n:=0) [(f.1:Int),f.2.1,f.2.2] #[_]
def aZ9(hT:TE T)(C:fT g m hd cl lc lf hs fs)(B:hX g q qc qf gv lr hs fs)(O1:ij hs)(inc:fh (nums fs))(hf:fs.length<=50)(h:∀g',Ex g g'->Q (.bl true) g'):b7 T (k+6) 207 [.ref m,.ref q] g Q E:=by
 have hz:=O1.len;have nl:=K6 hs;refine call_of hT.CV rfl ?_;delta ES;show m8 B.b rfl L9 ?_;show tm B.c (by simp[fZ];omega) ?_;rw[zS];show G9 b8 O1.inc () ?_;have e1:=(Ex.snoc g (O.lst (b0 (nums hs)))).trans (Ex.snoc _ (O.lst (b0 (nums hs))));have s1:=b8 (g:=g++[O.lst (b0 (nums hs))]) (o:=O.lst (b0 (nums hs)));generalize (g++[O.lst (b0 (nums hs))]).length=sr at *;generalize (g++[O.lst (b0 (nums hs))])++[_]=g1 at *;have C1:=C.at e1;have B1:=B.at e1;show i0 C1.o rfl rfl ?_;show Z1 (k:=k+4) hT.tc C1 O1.inc () ?_;left;have e2:=Ex.snoc g1 (O.lst (b0 (nums hs)));refine R6 hT.h6 hT.h7 1 (k:=k+2) (Oe b8 (e2.at s1) ()) λg3 e3=>?_;have jb:=e2.trans e3;have C3:=C1.at jb;have B3:=B1.at jb;show i0 C3.o rfl rfl ?_;show z8 (k:=k+3) hT.tc C3 O1.inc () λg4 r4 e4 _ vT=>?_;show X2 (k:=k+4) hT.td (B3.at e4) O1.inc () λg5 r5 e5 _ rZ=>?_;show R6 hT.h6 hT.h7 3 (k:=k) (a25 O1 (e5.at vT) rZ) λg6 e6=>?_;have jx:=jb.trans (e4.trans (e5.trans e6));have C6:=C1.at jx;have B6:=B1.at jx;have s6:=jx.at s1;show L4 (α:=Nat×a9) (a8 T _) (sT (a8 T _) (a7 s6) (λQ q=>w_var rfl q) _ ?_);refine#[hs,λp=>.int (p.1:Nat),λZ=>∃z1 z2,Z=[some (.ref q),some (.ref m),z1,z2],λ_=>true,λ_=>.bl true,λg' e=>n9 (a7 ?_),by omega,#[none,none,rfl],λp Z g' hp e sh=>?_,λg7 e7=>?_]
 ·rw[show hs.map (λp=>D.int (p.1:Nat))=b0 (nums hs) by simp[b0,nums]];exact e.at s6
 ·let#[z1,z2,rfl]:=sh;refine j9 (M3 #[rfl,e,iV ?_]);have C7:=C6.at e;have B7:=B6.at e;show i0 C7.o rfl rfl ?_;show UE (k:=k+2) hT.tc C7 O1.inc hp ?_;show m8 B7.b rfl L9 ?_;show m8 B7.c rfl (p8 (f:=a9.d) O1.inc hp) ?_;show R6 hT.h6 hT.h7 2 (k:=k+1) (zT (O1.good p hp)) λg8 e8=>?_;exact#[rfl,e.trans e8,_,_,rfl]
 rw[O7];refine Ae (v:=true) (a7 b8) ?_ ?_
 ·rw[show hs.map (λ_=>D.bl true)=(hs.map λ_=>true).map D.bl by rw[aX];rfl,zQ];simp
 have e8:=jx.trans (e7.trans (Ex.snoc g7 (O.lst (hs.map λ_=>D.bl true))));generalize g7++[_]=g8 at *;have C8:=C1.at e8;have B8:=B1.at e8;show i0 C8.o rfl rfl ?_;show Nl (k:=k+3) hT.tc C8 inc hf λg9 r9 e9 _ QM=>?_;have B9:=B8.at e9;show L4 (α:=Nat×Int×Int) (a8 T _) (iH (a8 T _) ?_);show m8 B9.b rfl pT ?_;show tm B9.f (by simp[gU];omega) ?_;rw[ER];show G9 b8 inc (by rw[K6];exact hf) ?_;have IT:=(Ex.snoc g9 (O.lst (b0 (nums fs)))).trans (Ex.snoc _ (O.lst (b0 (nums fs))));refine#[_,_,rfl,a7 b8,fs,λp=>.int (p.1:Nat),λZ=>∃z1 z2,Z=[some (.ref q),z1,z2],λ_=>true,λf=>.tup [.int (f.1:Nat),.int f.2.1,.int f.2.2],λg' e=>n9 (a7 ?_),by omega,#[none,none,rfl],λp Z g' hp e sh=>?_,λuk oj=>?_]
 ·rw[show fs.map (λp=>D.int (p.1:Nat))=b0 (nums fs) by simp[b0,nums]];exact e.at b8
 ·let#[z1,z2,rfl]:=sh;refine j9 (M3 #[rfl,e,iV ?_]);have OY:=(B9.at IT).at e;show m8 OY.b rfl pT ?_;show m8 OY.f rfl (p8 (f:=pD) inc hp) ?_;show xg #[_] ?_;exact#[rfl,e,_,_,rfl]
 rw[O7];have jL:=(IT.trans oj).trans (Ex.snoc uk (O.lst (fs.map λf=>.tup [.int (f.1:Nat),.int f.2.1,.int f.2.2])));show R6 hT.h6 hT.h7 2 (k:=k+1) (a24 (jL.at QM) b8 ()) λuj jb=>?_;exact h _ (((e1.trans e8).trans e9).trans (jL.trans jb))
def US(h4:T 4=some P9){z}(D0:n6 g d)(h:∀(ns:List Int) g',ns.length<=8->n6 g' d->Gr d g g'->Q (.tup (ns.map .int)) g') :
  aW (b7 T (k+1)) (.prim .tuple (.cons (.comp [0,2] 4 (.one 3) (.fL (.lit (.int 8))) (.gF (.eB (.prim (.cmp .In) (.cons (.var 3) (.cons (.var 1) .nil)))) (.eB (.prim (.cmp .Eq) (.cons (.call 4 (.cons (.var 0) (.cons (.lit (.int 9)) .nil))) (.cons (.lit (.int 0)) .nil))))) (.var 3)) .nil)) [some (.ref d),z,some (.tup (ms.map .int))] g Q E:=by
 show M7 (a8 T _) (xW (a8 T _) ?_);show#[by decide,by decide,E0 0 8,λi ys Z g'=>n6 g' d/\Gr d g g'/\(∃ns:List Int,ys=ns.map .int)/\ys.length<=i/\∃z2 z3,Z=[some (.ref d),some (.tup (ms.map .int)),z2,z3],by decide,λi ys Z g' p=>#[L3,p.2.2.2.1],#[D0,Gr.refl _ _,#[[],rfl],by simp,none,none,rfl],λi y ys Z g' hy p=>?_,λys Z g5 p=>?_]
 ·let#[D5,G5,#[ns,rfl],hl,z2,z3,rfl]:=p;let#[_,rfl]:=U1 hy;have yes:∀g6,n6 g6 d->Gr d g g6->aW (b7 T (k+1)) (.var 3) [some (.ref d),some (.tup (ms.map .int)),z2,some (.int (0+(i:Int)))] g6 (λy g4=>n6 g4 d/\Gr d g g4/\(∃l:List Int,ns.map D.int++[y]=l.map .int)/\(ns.map D.int++[y]).length<=i+1/\∃Pk Pj,[some (D.ref d),some (.tup (ms.map .int)),z2,some (.int (0+(i:Int)))]=[some (.ref d),some (.tup (ms.map .int)),Pk,Pj]) jt:=λg6 D6 G6=>by
   left;exact#[D6,G6,#[ns++[0+(i:Int)],by simp],by simp at hl ⊢;omega,_,_,rfl]
  refine j9 ?_;show qN (U8 (ms:=ms) rfl ?_);show if2 (λ_=>?_) (λ_=>?_)
  ·refine iV ?_;exact yes g' D5 G5
  show j7 (k:=k) h4 D5 ∅ ∅ λr g6 _ _ D6 G6=>?_;show if2 (λ_=>?_) (λ_=>?_)
  ·exact yes g6 D6 (G5.trans G6)
  ·exact#[D6,G5.trans G6,#[ns,rfl],by omega,_,_,rfl]
 let#[D5,G5,#[ns,rfl],hl,z2,z3,rfl]:=p;refine Yr (a7 b8) ?_;exact h ns _ (by simpa[E0] using hl) ((Ex.snoc _ _).draw D5) (G5.trans ((Ex.snoc _ _).gr d))
def aS1(hT:TE T)(sA:T 206=some zI)(B:hX g q qc qf gv lr hs fs)(O1:ij hs)(D0:n6 g d)(h:∀(c:a9) g',CB c->n6 g' d->Gr d g g'->Q c.d g'):b7 T (k+3) 206 [.ref d,.ref q] g Q E:=by
 have h4:=hT.td.h4;have hz:=O1.len;have dl:=D0.lt;refine call_of sA rfl ?_;delta zI;show X2 (k:=k+1) hT.td B O1.inc () λg1 r1 e1 l1 nS=>?_;have D1:=e1.draw D0;have G1:=e1.gr d;have lc:(d8 hs).length<=9:=by simpa[d8] using hz
 have any:∀g2,n6 g2 d->Gr d g g2->b7 T (k+2) 22 [.ref d] g2 Q E:=λg2 D2 G2=>aT6 (k:=k) h4 hT.CL D2 λc g3 hc D3 G3=>h c g3 #[hc.l8,hc.u8] D3 (G2.trans G3);left;rw[ai];refine if2 (λ_=>?_) (λc0=>?_)
 ·refine eM rfl ?_;left;exact any g1 D1 G1
 show j7 (k:=k+1) h4 D1 ∅ ∅ λr g2 _ _ D2 G2=>?_;have OW:=G1.trans G2;show if2 (λ_=>?_) (λ_=>?_)
 ·left;exact any g2 D2 OW
 have kM:=G2.at () nS;left;rw[ai];refine j7 (k:=k+1) h4 D2 () () λj1 g3 j0 jl D3 G3=>?_;have pk:=G3.at () kM;let#[y,hy,hm]:=F8 (l:=(d8 hs).map a9.d) j0 (by simpa using jl);let#[c1,yU,rfl]:=ao.mp hm;refine E5 (a7 pk) hy ?_;left;rw[ai];refine j7 (k:=k+1) h4 D3 () () λj2 g4 Qz Qy D4 G4=>?_;have vT:=G4.at () pk;let#[y,BE,qt]:=F8 (l:=(d8 hs).map a9.d) Qz (by simpa using Qy);let#[c2,pB,rfl]:=ao.mp qt;refine E5 (a7 vT) BE ?_;have G4':=OW.trans (G3.trans G4);show M7 (a8 T _) (yJ (a8 T _) ?_);show A9 (d:=.tup (c1.lm.map .int)) rfl ?_;show A9 (d:=.tup (c2.um.map .int)) rfl ?_;show#[_,rfl,[.tup (c1.lm.map .int),.tup (c2.um.map .int)],λi ys Z g'=>n6 g' d/\Gr d g g'/\(∃L:List (List Int),ys=L.map (λl=>.tup (l.map .int))/\L.length=i/\∀l∈L,l.length<=8)/\∃z1 z2,Z=[some (.ref d),z1,z2],by simp,λi ys Z g' p=>#[L3,?_],#[D4,G4',#[[],rfl,rfl,λl hl=>by cases hl],none,none,rfl],λi y ys Z g' hy p=>?_,λys Z g5 p=>?_]
 ·let#[_,_,#[L,rfl,hl,_],_]:=p;rw[ai];omega
 ·let#[D5,G5,#[L,rfl,hl,h8],z1,z2,rfl]:=p;obtain⟨ms,rfl⟩:∃ms:List Int,y=.tup (ms.map .int):=by
   rcases aF.mp (aJ hy) with z|z
   ·exact#[_,z]
   ·exact#[_,ba.mp z]
  refine j9 (M3 (iV ?_));refine US (k:=k+1) h4 D5 λns g6 hn D6 G6=>?_;exact#[D6,G5.trans G6,#[L++[ns],by simp,by simp[hl],λl hl=>(bD.mp hl).elim (h8 l) λz=>by rw[ba.mp z];exact hn],_,_,rfl]
 let#[D5,G5,#[L,rfl,hl,h8],z1,z2,rfl]:=p;obtain⟨n1,n2,rfl⟩:∃n1 n2,L=[n1,n2]:=by
  match L,hl with
  |[a,b],_=>exact#[a,b,rfl]
 have e6:=Ex.snoc g5 (O.lst ([n1,n2].map λl=>D.tup (l.map .int)));have s6:=b8 (g:=g5) (o:=O.lst ([n1,n2].map λl=>D.tup (l.map .int)));have D6:=e6.draw D5;have G6:=G5.trans (e6.gr d);have l6:g5.length≠d:=by have:=G5.len;omega
 generalize g5++[_]=g6 at *;generalize g5.length=u6 at *;show A9 (d:=.int c1.lo) rfl ?_;show A9 (d:=.int c2.up) rfl ?_;show A9 (d:=.int c1.yr) rfl ?_;left;have e7:=Ex.snoc g6 (O.lst [D.int 0,D.int c1.yr,D.int 1410]);have s7:=b8 (g:=g6) (o:=O.lst [D.int 0,D.int c1.yr,D.int 1410]);have l7:g6.length≠d:=by have:=G6.len;omega
 refine j7 (k:=k+1) h4 (e7.draw D6) ∅ ∅ λj3 g8 t0 t1 D8 G8=>?_;let#[y,vO,tY]:=F8 (l:=[0,c1.yr,1410]) t0 (by simpa using t1);refine E5 (d:=.int y) (a7 (G8.at l7 s7)) ?_ ?_
 ·have:j3=0\/j3=1\/j3=2:=by omega
  rcases this with rfl|rfl|rfl<;>cases vO<;>rfl
 left;exact h #[c1.lo,n1,c2.up,n2,y] g8 #[h8 n1 #[_],h8 n2 #[_]] D8 (G6.trans ((e7.gr d).trans G8))
def KN(hT:TE T)(pF:T 232=some zA)(B:hX g q qc qf gv lr hs fs)(O1:ij hs)(D0:n6 g d)(Cd:d<q)(h:∀(v:Int) g',n6 g' d->Gr d g g'->Q (.int v) g'):b7 T (k+5) 232 [.ref d,.ref q,.str x] g Q E:=by
 have hz:=O1.len;refine call_of pF rfl ?_;delta zA;have rest:aW (b7 T (k+4)) (.call 37 (.cons (.var 0) (.cons (.prim .sset (.cons (.comp [3] 3 (.one 2) (.eZ (.call 196 (.cons (.var 1) .nil))) .no (.prim .ix (.cons (.var 2) (.cons (.var 0) .nil)))) .nil)) .nil))) [some (.ref d),some (.ref q),some (.str x),some (.int (fX x))] g Q E:=by
  show L4 (α:=a9) (a8 T _) (iH (a8 T _) ?_);show X2 (k:=k+3) hT.td B O1.inc () λg1 r1 e1 l1 nS=>?_;refine#[r1,_,rfl,a7 nS,d8 hs,a9.d,λZ=>∃z1 z2,Z=[some (.int (fX x)),z1,z2],λ_=>true,λc=>.int (H9 (fX x) c),λg' e=>n9 (a7 (e.at nS)),by simp[d8];omega,#[none,none,rfl],λc Z g' hp e sh=>?_,λg2 e2=>?_]
  ·let#[z1,z2,rfl]:=sh;refine j9 (M3 #[rfl,e,iV ?_]);left;exact A9 (uA (Jp x) c) #[rfl,e,_,_,rfl]
  rw[O7];have e3:=(e1.trans e2).trans (Ex.snoc g2 (O.lst ((d8 hs).map λc=>D.int (H9 (fX x) c))));refine Ox (ns:=(d8 hs).map (H9 (fX x))) (a7 (by rw[aX];exact b8)) (by simp[d8];omega) ?_;left;have e4:=e3.trans (Ex.snoc _ (O.lst ((m5 ((d8 hs).map (H9 (fX x)))).map .int)));have dl:=D0.lt;refine Gq (k:=k) hT.td b8 (by have:=e3.len;omega) (aD (Q6 _) (by simp[d8];omega)) (e4.draw D0) λv g5 D5 G5=>?_;exact h v g5 D5 ((e4.gr d).trans G5)
 show if2 (λc1=>?_) (λc1=>?_)
 ·rw[show fX x=0 from aH c1] at rest;exact w_lit rest
 ·rw[show fX x=2 from az c1] at rest;exact w_lit rest
def bE4(hT:TD T)(h:Q (.ref g.length) (g++[.cg (P4 (g.length+1) (g.length+2) 0 0),.cg [],.cg []])):b7 T (k+1) 195 [] g Q E:=by
 refine call_of hT.Dg rfl ?_;delta Ea;show Yu ?_;show#[_,rfl,by simp,by simp,?_];have:((g++[O.cg []]++[O.cg []])++[O.cg []]).set g.length (.cg [(.inr "coins",.ref (g++[O.cg []]).length),(.inr "facts",.ref ((g++[O.cg []])++[O.cg []]).length),(.inr "given",.int 0),(.inr "learnt",.int 0)])=g++[.cg (P4 (g.length+1) (g.length+2) 0 0),.cg [],.cg []]:=by
  simp[P4,List.set_append]
 exact this▸h
def bE3(hT:TC T)(h:Q .br (g++[gW (g.length+1) (g.length+2) 0 0,.cg [],.cg []])):b7 T (k+1) 208 [.ref g.length] (g++[.ins "Cabinet" []]) Q E:=by
 refine call_of hT.CU rfl ?_;delta Fn;have s0:=b8 (g:=g) (o:=O.ins "Cabinet" []);show P8 (zy s0) #[_] #[_] ?_;rw[show ∀x:D,m7 "held" x []=([("held",x)]:List (Str×D)) from λ_=>rfl];have s1:=get_set (zy (o':=O.cg []) s0) (o':=O.ins "Cabinet" [("held",.ref (g++[O.ins "Cabinet" []]).length)]);show P8 (zy s1) #[_] #[_] ?_;generalize hx:D.ref (((g++[O.ins "Cabinet" []]++[O.cg []]).set g.length (O.ins "Cabinet" [("held",.ref (g++[O.ins "Cabinet" []]).length)])).length)=x2 at *;have s2:=get_set (zy (o':=O.cg []) s1) (o':=O.ins "Cabinet" [("held",.ref (g++[O.ins "Cabinet" []]).length),("claims",x2)]);show P8 s2 #[_] #[_] ?_;have s3:=get_set s2 (o':=O.ins "Cabinet" [("held",.ref (g++[O.ins "Cabinet" []]).length),("claims",x2),("last_coin",.int 0)]);show P8 s3 #[_] #[_] ?_;rw[show ∀x y z u:D,m7 "last_fact" x [("held",y),("claims",z),("last_coin",u)]=([("held",y),("claims",z),("last_coin",u),("last_fact",x)]:List (Str×D)) from λ_ _ _ _=>rfl];subst hx;refine cast (cT (Q .br) ?_) h;simp[List.set_append,gW]
end
abbrev C0:aR:=#[1,2,(.seq (.set 1 (cB .lT (.bK "numbers" [("Cabinet",221)] aA .nil))) (.seq (.ret (.comp [1] 5 (.many [2,3,4]) (.eZ (.bK "facts" [("Cabinet",224)] aA .nil)) .no (.prim .tup (fj (cv "coin") (bA aA bx) (bA aA dw))))) .pass))]
abbrev S7:aR:=#[2,2,(.seq (.ret (.call 126 (fj (.bK "coins" [("Cabinet",223)] aA .nil) aL (.bK "fact_rules" [("Cabinet",213)] aA .nil)))) .pass)]
abbrev kc(hs:Hs)(v:Int):Nat:=(nums hs).findIdx λn:Nat=>decide ((n:Int)=v)
abbrev Q3(hs:Hs)(fs:Fs):List gD:=fs.map λf=>#[.dR,(kc hs f.2.1:Nat),(kc hs f.2.2:Nat)]
def MY:∀(l:List Int) (v:Int) (s:Nat),v∈l->v8 ((l.zipIdx s).map λp=>((.inl p.1:Key),D.int p.2)) (.inl v)=some (.int ((s+l.findIdx λn=>decide (n=v):Nat):Int))
 |x::l,v,s,h=>by
  rw[List.zipIdx_cons,cx,List.findIdx_cons];unfold v8;rw[df];by_cases e:x=v
  ·subst e;simp
  ·have hv:v∈l:=by
    rcases aF.mp h with z|z
    ·exact absurd z.symm e
    ·exact z
   have ih:=MY l v (s+1) hv;unfold v8 at ih;rw[ax (by intro z;exact e (dh z)),ax e];dsimp only[cond];rw[ih]
   congr 2
   omega
def MX(h:n∈nums hs):v8 (qO ((nums hs).map λn:Nat=>(n:Int))) (.inl (n:Int))=some (.int ((kc hs n:Nat):Int)):=by
 have:=MY ((nums hs).map λn:Nat=>(n:Int)) n 0 (ao.mpr #[n,h,rfl]);unfold qO kc;rw[this,List.findIdx_map,Nat.zero_add]
 rfl
section
variable{T:Nat->Option aR}{d:Nat}
def aG8(hT:TC T)(mZ:T 213=some C0)(C:fT g m hd cl lc lf hs fs)(inc:fh (nums hs))(rW:fh (nums fs))(hz:hs.length<=50)(BC:fs.length<=50)(hI:nG hs fs)(h:∀g' r,Ex g g'->g.length<=r->g'[r]?=some (.lst (Q2 (Q3 hs fs)))->Q (.ref r) g'):b7 T (k+3) 213 [.ref m] g Q E:=by
 refine call_of mZ rfl ?_;delta C0;show i0 C.o rfl rfl ?_;show Z1 (k:=k+1) hT C inc hz ?_;have e1:=Ex.snoc g (O.lst (b0 (nums hs)));rw[L7] at e1 ⊢;show Zx b8 (by simp[nums];omega) (Kb inc) ?_;have e2:=e1.trans (Ex.snoc _ (O.cg (qO ((nums hs).map λn:Nat=>(n:Int)))));have hd2:=b8 (g:=g++[O.lst (((nums hs).map λn:Nat=>(n:Int)).map D.int)]) (o:=O.cg (qO ((nums hs).map λn:Nat=>(n:Int))));generalize (g++[O.lst (((nums hs).map λn:Nat=>(n:Int)).map D.int)]).length=pd at *;generalize g++[O.lst (((nums hs).map λn:Nat=>(n:Int)).map D.int)]++[O.cg (qO ((nums hs).map λn:Nat=>(n:Int)))]=g2 at *;show L4 (α:=Nat×Int×Int) (a8 T _) (iH (a8 T _) ?_);show i0 (C.at e2).o rfl rfl ?_;show Nl (k:=k) hT (C.at e2) rW BC λg3 r e3 _ hr=>?_;refine#[_,_,rfl,a7 hr,fs,λf=>.tup [.int (f.1:Nat),.int f.2.1,.int f.2.2],λZ=>∃z1 z2 z3 z4,Z=[some (.ref pd),z1,z2,z3,z4],λ_=>true,λf=>.tup [.str "coin",.int (kc hs f.2.1:Nat),.int (kc hs f.2.2:Nat)],λg' e=>n9 (a7 (e.at hr)),by omega,#[none,none,none,none,rfl],λf Z g' hf e sh=>?_,λg' e=>?_]
 ·let#[z1,z2,z3,z4,rfl]:=sh;let#[_,#[n1,h1,DD],n2,h2,Sz]:=hI f hf;refine O0 rfl (M3 #[rfl,e,iV ?_]);left;have Ik:=(e3.trans e).at hd2;rw[DD,Sz];refine m8 Ik rfl (MX h1) ?_;show m8 Ik rfl (MX h2) ?_;left;exact#[rfl,e,_,_,_,_,rfl]
 ·rw[O7];refine h _ _ ((e2.trans (e3.trans e)).trans (Ex.snoc _ _)) (e2.trans (e3.trans e)).len ?_;rw[b8];simp[Q2,Q3,gD.d,RW.s]
end
section
variable{T:Nat->Option aR}{c:Nat}
def Ow(h:n∈nums hs):kc hs n<hs.length:=by
 unfold kc;have:=List.findIdx_lt_length_of_exists (p:=λm:Nat=>decide ((m:Int)=(n:Int))) (xs:=nums hs) #[n,h,by simp]
 rwa [K6] at this
def Ov(h:n∈nums hs):(nums hs)[kc hs n]?=some n:=by
 have h1:kc hs n<(nums hs).length:=by rw[K6];exact Ow h
 have h2:=List.findIdx_getElem (p:=λm:Nat=>decide ((m:Int)=(n:Int))) (xs:=nums hs) (w:=h1);rw[au h1];have:=aM h2
 congr 1
 exact Int.ofNat.inj this
def bA9{n'}(h:n∈nums hs)(h':n'∈nums hs)(e:kc hs n=kc hs n'):n=n':=by
 have h1:=Ov h;have h2:=Ov h';rw[e,h2] at h1;exact(aG h1).symm
def a80(hI:nG hs fs):(Q3 hs fs).all (E6 (d8 hs))=true:=by
 rw[bt];intro r hr;let#[f,hf,rfl]:=ao.mp hr;let#[hd,#[n1,h1,e1],n2,h2,e2]:=hI f hf;have fM:∀{n:Nat},n∈nums hs->(iG (d8 hs) .dR ((kc hs n:Nat):Int)).isEmpty=false:=λ{n} h=>by
  have:kc hs n∈iG (d8 hs) .dR ((kc hs n:Nat):Int):=by
   unfold iG;rw[aS,bj];exact#[by simp[d8];exact Ow h,by simp[meant]]
  cases e:iG (d8 hs) .dR ((kc hs n:Nat):Int) with
  |nil=>rw[e] at this;cases this
  |cons _ _=>rfl
 unfold E6;dsimp only;rw[e1,e2,fM h1,fM h2,ax]
 ·rfl
 ·intro z;have:n1=n2:=bA9 h1 h2 (Int.ofNat.inj z);exact hd (by rw[e1,e2,this])
def az3(hT:TC T)(hB:TB T)(hF:TF T)(hW:TW T)(ng:T 126=some xR)(mZ:T 213=some C0)(sx:T 226=some S7)(C:fT g m hd cl lc lf hs fs)(O1:ij hs)(CA:∀c∈d8 hs,CB c)(rW:fh (nums fs))(BC:fs.length<=50)(hI:nG hs fs)(hv:1<=v/\v<=9)(h:∀g',Ex g g'->Q (.int ((E2 hs.length (V0 (d8 hs) v (Q3 hs fs)) 0).length:Nat)) g'):b7 T (k+12) 226 [.ref m,.int v] g Q E:=by
 refine call_of sx rfl ?_;delta S7;show i0 C.o rfl rfl ?_;show z8 (k:=k+9) hT C O1.inc (by have:=O1.len;omega) λg1 r1 e1 _ nS=>?_;show i0 (C.at e1).o rfl rfl ?_;show aG8 (k:=k+8) hT mZ (C.at e1) O1.inc rW (by have:=O1.len;omega) BC hI λg2 r2 e2 _ kM=>?_;left;have hl:(d8 hs).length=hs.length:=by simp[d8]
 refine aS6 (k:=k) hB hF hW ng (e2.at nS) (by rw[hl];exact O1.len) (Lp O1) CA hv kM (by simp[Q3];omega) (a80 hI) λg3 e3=>?_;rw[hl];exact h _ (e1.trans (e2.trans e3))
end
abbrev Ep:aR:=#[2,2,(.seq (.ret (.dS (bN (.cmp .Eq) (bN (.cmp .Eq) (bA aA (aT 0)) (cv "")) (bN (.cmp .Eq) (bA aL (aT 0)) (cv ""))) (.call 7 (cY (bA aA (aT 1)) (bA aL (aT 1)))))) .pass)]
abbrev Ff:aR:=#[2,2,(.seq (.pS (.seq (.ret (bN .lst (cv "") (.call 205 (cY aA aL)))) .pass) [("MintError",(.prim .lst (.cons (.lit (.str "refused")) (.cons (.lit .br) .nil))))]) .pass)]
abbrev U5:aR:=#[2,7,(.seq (.set 2 (cB .eW (cB .list (bA aL (cv "coins"))))) (.seq (.set 3 (.call 4 (cY aA (aT 16)))) (.seq (.ifs (.gF (cN .Lt bx (aT 6)) (.dS (cN .Lt (cB .len aV) (aT 2)) (cN .Lt bx (aT 12)))) (.seq (.ret (bN .tup (cv "put") (.call 14 (cY aA (.call 206 (cY aA aL)))))) .pass) .pass) (.seq (.ifs (cN .Lt bx (aT 8)) (.seq (.ret (.prim .tup (fj (cv "right") (.call 37 (cY aA aV)) (.call 14 (cY aA (.call 206 (cY aA aL))))))) .pass) .pass) (.seq (.ifs (cN .Lt bx (aT 9)) (.seq (.ret (bN .tup (cv "out") (.call 37 (cY aA aV)))) .pass) .pass) (.seq (.ifs (cN .Lt bx (aT 12)) (.seq (.ret (.prim .tup (fj (cv "tell") (.call 37 (cY aA aV)) (.call 37 (cY aA aV))))) .pass) .pass) (.seq (.ifs (cN .Lt bx (aT 13)) (.seq (.ret (bN .tup (cv "untell") (.call 37 (cY aA (cB .eW (cB .list (bA aL (cv "facts")))))))) .pass) .pass) (.seq (.set 4 (.call 29 (cX aA))) (.seq (.set 5 (.call 232 (fj aA aL dw))) (.seq (.ifs (cN .Lt bx (aT 14)) (.seq (.ret (.prim .tup (oS (cv "one") dw fz (.call 232 (fj aA aL dw))))) .pass) .pass) (.seq (.set 6 (.comp [0] 3 (.one 2) (.eZ (.call 201 (fj aL dw fz))) (cN .Eq (.call 4 (cY aA (aT 2))) (aT 0)) aV)) (.seq (.ret (.prim .tup (oS (cv "two") dw fz (bN (.bin .Add) gy (bN (.bin .Mult) (cB .lst (.call 37 (cY aA aV))) (cB .int (bN (.cmp .Eq) (.call 4 (cY aA (aT 6))) (aT 0)))))))) .pass))))))))))))]
structure TG(T:Nat->Option aR):Prop where
 te:TE T
 yX:T 14=some zV
 sA:T 206=some zI
 CD:T 29=some Ap
 pF:T 232=some zA
 Di:T 191=some Ep
 CH:T 234=some Ff
 CG:T 235=some U5
section
variable{T:Nat->Option aR}{d:Nat}{s:Sd}
def Wd.gr(W:Wd g d m hd cl q qc qf s)(D':n6 g' d)(G':Gr d g g'):Wd g' d m hd cl q qc qf s:=by
 have:=W.A.h;exact#[D',#[G'.at () W.C.o,G'.at () W.C.h,G'.at () W.C.c],#[G'.at () W.B.b,G'.at () W.B.c,G'.at () W.B.f],W.K,W.A]
def Wd.at(W:Wd g d m hd cl q qc qf s)(e:Ex g g'):Wd g' d m hd cl q qc qf s:=W.gr (e.draw W.dr) (e.gr d)
def MP(hT:TG T){e1 e2:Str}{y1 y2:D}(hr:g[r]?=some (.lst [.str e1,y1]))(he:decide (e1="")=decide (e2=""))(hy:u5 g 2 y1 y2)(h:∀g',Ex g g'->Q (.bl true) g'):b7 T (k+5) 191 [.ref r,.tup [.str e2,y2]] g Q E:=by
 refine call_of hT.Di rfl ?_;delta Ep;left;rw[he,beq_self_eq_true];left;exact R6 hT.te.h6 hT.te.h7 2 (k:=k) hy h
def OL(hT:TG T){e}{an}{s'}(hc:Kf T k g m hd cl dd e an s')(hn:e≠""->∀g',Ex g g'->Q (.ref g'.length) (g'++[.lst [.str "refused",.br]]))(h:e=""->∀g' y js,Fl m hd cl g g'->(js=cl\/g.length<=js)->fT g' m hd js s'.lc s'.lf s'.hs s'.fs->jO.at g.length g' y an->Q (.ref g'.length) (g'++[.lst [.str "",y]])):b7 T (k+11) 234 [.ref m,dd] g Q E:=by
 refine call_of hT.CH rfl ?_;delta Ff;show hc _ _ (λz g' e'=>b09 ?_) λz g' y js F jq C' A'=>As #[_] (h z g' y js F jq C' A');left;exact hn z g' e'
def bE5(hT:TG T)(W:Wd g d m hd cl q qc qf s)(S:Step T (k+1) g m hd cl q qc qf s (λ_=>True) dd) :
  b7 T (k+12) 234 [.ref m,dd] g (λy1 g1=>b7 T (k+12) 204 [.ref q,dd] g1 (λy2 g2=>b7 T (k+12) 191 [y1,y2] g2 (λy g'=>y=.bl true/\∃js s',Wd g' d m hd js q qc qf s'/\s'.lf<=s.lf+1) E) E) E:=by
 have ad:=W.A.h;have lq:=i8 W.B.f;have lm:=i8 W.C.h;let#[e,an,s',ok,K',l',_,hc,hb]:=S;by_cases he:e=""
 ·refine OL (k:=k+1) hT hc (λz=>absurd he z) λ_ g1 y js F1 jq C1 A1=>?_;have e2:=Ex.snoc g1 (O.lst [D.str "",y]);have s2:=b8 (g:=g1) (o:=O.lst [D.str "",y]);have F2:=F1.trans (Ex.fl e2);have l1:=F1.len;refine hb _ F2 (W.box F2) _ _ (λz=>absurd he z) λ_ g3 y3 F3 B3 A3=>?_;have Qv:js<g1.length:=i8 C1.c;have ne:js≠q/\js≠qc/\js≠qf:=by omega
  have C3:fT g3 m hd js s'.lc s'.lf s'.hs s'.fs:=#[F3.at () (e2.at C1.o),F3.at () (e2.at C1.h),F3.at ne (e2.at C1.c)]
  have W3:Wd g3 d m hd js q qc qf s':=#[F3.draw (F2.draw W.dr ()) (),C3,B3,K' he,#[by omega]]
  have A1':jO.at g.length g3 y an:=by
   cases an with
   |val d=>exact A1
   |lst l =>
    let#[r,rfl,lr,er]:=A1;exact#[r,rfl,lr,F3.at () (e2.at er)]
  exact MP (k:=k+7) hT (F3.at () s2) rfl (jO.Kq ok A1' A3) λg4 e4=>#[rfl,js,s',W3.at e4,l']
 ·refine OL (k:=k+1) hT hc (λ_ g1 e1=>?_) λz=>absurd z he;have e2:=e1.trans (Ex.snoc g1 (O.lst [D.str "refused",.br]));have s2:=b8 (g:=g1) (o:=O.lst [D.str "refused",.br]);refine hb _ (Ex.fl e2) (W.B.at e2) _ _ (λ_ g3 e3=>?_) λz=>absurd z he;exact MP (k:=k+7) hT (e3.at s2) (by rw[ax he];decide +kernel) .br λg4 e4=>#[rfl,cl,s,W.at (e2.trans (e3.trans e4)),by omega]
def Uy(D0:n6 g d):∃g1 m hd cl q qc qf,((g++[gW (g.length+1) (g.length+2) 0 0,.cg [],.cg []])++[.cg (P4 ((g++[gW (g.length+1) (g.length+2) 0 0,.cg [],.cg []]).length+1) ((g++[gW (g.length+1) (g.length+2) 0 0,.cg [],.cg []]).length+2) 0 0),.cg [],.cg []])=g1/\(g++[gW (g.length+1) (g.length+2) 0 0,.cg [],.cg []]).length=q/\g.length=m/\Wd g1 d m hd cl q qc qf #[0,0,[],[]]:=by
 have dl:=D0.lt;have e1:Ex g ((g++[gW (g.length+1) (g.length+2) 0 0,.cg [],.cg []])++[.cg (P4 ((g++[gW (g.length+1) (g.length+2) 0 0,.cg [],.cg []]).length+1) ((g++[gW (g.length+1) (g.length+2) 0 0,.cg [],.cg []]).length+2) 0 0),.cg [],.cg []]):=#[by simp,λi hi=>by rw[aK (by simp;omega),aK hi]]
 refine#[_,_,g.length+1,g.length+2,_,(g++[gW (g.length+1) (g.length+2) 0 0,.cg [],.cg []]).length+1,(g++[gW (g.length+1) (g.length+2) 0 0,.cg [],.cg []]).length+2,rfl,rfl,rfl,e1.draw D0,#[?_,?_,?_],#[?_,?_,?_],#[#[List.Pairwise.nil,by decide,λp hp=>by cases hp],λj hj=>(by cases hj),List.Pairwise.nil,λj hj=>(by cases hj),by decide,λf hf=>(by cases hf)],#[by simp;omega]]
 all_goals first|(simp[fZ,gU,List.getElem?_append];done)|(rw[cV #[_]];simp[fZ,gU];done)
def bD9(hT:TG T)(W:Wd g d m hd cl q qc qf s)(hf:s.fs.length<=50)(h:∀dd g',Wd g' d m hd cl q qc qf s->(∀k,Step T k g' m hd cl q qc qf s (λ_=>True) dd)->Q dd g'):b7 T (k+6) 235 [.ref d,.ref q] g Q E:=by
 have ad:=W.A.h;have h4:=hT.te.td.h4;have O1:=W.K.K;have hz:=O1.len;have nl:=K6 s.hs;have lf':=i8 W.B.f;refine call_of hT.CG rfl ?_;delta U5;show m8 W.B.b rfl L9 ?_;show tm W.B.c (by simp[fZ];omega) ?_;rw[zS];show G9 b8 O1.inc () ?_;have e1:=(Ex.snoc g (O.lst (b0 (nums s.hs)))).trans (Ex.snoc _ (O.lst (b0 (nums s.hs))));have s1:=b8 (g:=g++[O.lst (b0 (nums s.hs))]) (o:=O.lst (b0 (nums s.hs)));have ls:g.length<(g++[O.lst (b0 (nums s.hs))]).length:=by simp
 generalize (g++[O.lst (b0 (nums s.hs))]).length=sr at *;generalize (g++[O.lst (b0 (nums s.hs))])++[_]=g1 at *;rw[L7] at s1;have W1:=W.at e1;have zl:((nums s.hs).map λn:Nat=>(n:Int)).length<=100:=by rw[ai];omega
 show j7 (k:=k+4) h4 W1.dr ∅ ∅ λt g2 _ _ D2 G2=>?_;have W2:=W1.gr D2 G2;have s2:=G2.at () s1;have rQ:∀{g3:G} {Q:KD},Wd g3 d m hd cl q qc qf s->(∀(c:a9) g4,CB c->Wd g4 d m hd cl q qc qf s->Q c.d g4)->b7 T (k+5) 206 [.ref d,.ref q] g3 Q E:=λW3 H =>
  aS1 (k:=k+2) hT.te hT.sA W3.B O1 W3.dr λc g4 hc D4 G4=>H c g4 hc (W3.gr D4 G4)
 have sL:∀{g3:G} {Q:KD} {c:a9},CB c->Wd g3 d m hd cl q qc qf s->(∀(c:a9) g4,CB c->Wd g4 d m hd cl q qc qf s->Q c.d g4)->b7 T (k+5) 14 [.ref d,c.d] g3 Q E:=λhc W3 H =>
  aH4 (k:=k+2) h4 hT.te.td.h5 hT.yX hc W3.dr λc' g5 mn D5 G5=>H c' g5 mn (W3.gr D5 G5)
 have num:∀{g3:G} {Q:KD},Wd g3 d m hd cl q qc qf s->g3[sr]?=some (.lst (((nums s.hs).map λn:Nat=>(n:Int)).map .int))->(∀(v:Int) g4,Wd g4 d m hd cl q qc qf s->g4[sr]?=some (.lst (((nums s.hs).map λn:Nat=>(n:Int)).map .int))->Gr d g3 g4->Q (.int v) g4)->b7 T (k+5) 37 [.ref d,.ref sr] g3 Q E:=λ{g3 Q} W3 s3 H =>
  Gq (k:=k+1) hT.te.td s3 () zl W3.dr λv g4 D4 G4=>H v g4 (W3.gr D4 G4) (G4.at () s3) G4
 left;have li:∀l:List Nat,(b0 l).length=l.length:=λl=>by simp[b0]
 refine if2 (λ_=>?_) (λ_=>?_)
 ·refine iV ?_;show rQ W2 λc g3 hc W3=>?_;show sL hc W3 λc g4 hc W4=>?_;left;exact h _ g4 W4 λk=>(NJ hT.te W4 hc).any
 have rest:wpS (b7 T (k+5)) (match U5.body with|.seq _ (.seq _ (.seq _ b))=>b|x=>x) #[λ_ g'=>Q .br g',Q,λ_ _=>False,λ_ _=>False] [some (.ref d),some (.ref q),some (.ref sr),some (.int t),none,none,none] g2 E:=by
  dsimp[U5];show if2 (λ_=>?_) (λ_=>?_)
  ·show num W2 s2 λv g3 W3 _ _=>?_;show rQ W3 λc g4 hc W4=>?_;show sL hc W4 λc g5 hc W5=>?_;left;exact h _ g5 W5 λk=>(aZ8 hT.te W5 hc).any
  show if2 (λ_=>?_) (λ_=>?_)
  ·show num W2 s2 λv g3 W3 _ _=>?_;left;exact h _ g3 W3 λk=>(We hT.te W3 hf).any
  show if2 (λ_=>?_) (λ_=>?_)
  ·show num W2 s2 λv g3 W3 s3 _=>?_;show num W3 s3 λu g4 W4 _ _=>?_;left;exact h _ g4 W4 λk=>(a71 hT.te W4 hf).any
  show if2 (λ_=>?_) (λ_=>?_)
  ·show m8 W2.B.b rfl pT ?_;show tm W2.B.f (by simp[gU];omega) ?_;rw[ER];show G9 b8 W.K.inc (by rw[K6];exact hf) ?_;have e3:=(Ex.snoc g2 (O.lst (b0 (nums s.fs)))).trans (Ex.snoc _ (O.lst (b0 (nums s.fs))));have s3:=b8 (g:=g2++[O.lst (b0 (nums s.fs))]) (o:=O.lst (b0 (nums s.fs)));rw[L7] at s3;left;have W3:=W2.at e3;have l2:=(e1.gr d).trans G2;have l2:=l2.len;refine Gq (k:=k+1) hT.te.td (ns:=(nums s.fs).map λn:Nat=>(n:Int)) (by rw[L7] at *;exact s3) (by simp;omega) (by simp[nums];omega) W3.dr λv g4 D4 G4=>?_;left;exact h _ g4 (W3.gr D4 G4) λk=>(aR6 hT.te (W3.gr D4 G4)).any
  show TY (k:=k+3) h4 hT.CD W2.dr λx g3 ho D3 G3=>?_;have W3:=W2.gr D3 G3;have s3:=G3.at () s2;show KN (k:=k) hT.te hT.pF W3.B O1 W3.dr () λv g4 D4 G4=>?_;have W4:=W3.gr D4 G4;have s4:=G4.at () s3;show if2 (λ_=>?_) (λ_=>?_)
  ·show KN (k:=k) hT.te hT.pF W4.B O1 W4.dr () λu g5 D5 G5=>?_;left;exact h _ g5 (W4.gr D5 G5) λk=>Wc hT.te (W4.gr D5 G5) ho
  show M7 (a8 T _) (iH (a8 T _) ?_);show uK (k:=k+4) hT.te.td W4.B O1.inc () λg5 r5 e5 l5 rZ=>?_;have W5:=W4.at e5;have s5:=e5.at s4;have n5:(numsOf s.hs (fX x) v).length<=9:=aD (numsOf_len _ _ _) hz;have l5':d<r5:=by have:=i8 s4;omega
  refine#[r5,_,rfl,a7 rZ,b0 (numsOf s.hs (fX x) v),λi ys Z g'=>n6 g' d/\Gr d g5 g'/\(∃ns:List Int,ys=ns.map .int)/\ys.length<=i/\∃z1 z2,Z=[some (.ref d),z1,z2],by rw[li];omega,λi ys Z g' p=>#[n9 (a7 (p.2.1.at () rZ)),p.2.2.2.1],#[W5.dr,Gr.refl _ _,#[[],rfl],by simp,none,none,rfl],λi y ys Z g' hy p=>?_,λys Z g6 p=>?_]
  ·let#[D6,G6,#[ns,rfl],hl,z1,z2,rfl]:=p;rw[b0,ah,aa] at hy;let#[j,_,rfl]:=hy;refine j9 ?_
   try show dP _ _ _ _ _ _
   show j7 (k:=k+4) h4 D6 ∅ ∅ λr g7 _ _ D7 G7=>?_;show if2 (λ_=>?_) (λ_=>?_)
   ·left;exact#[D7,G6.trans G7,#[ns++[(j:Int)],by simp],by simp at hl ⊢;omega,_,_,rfl]
   ·exact#[D7,G6.trans G7,#[ns,rfl],by omega,_,_,rfl]
  let#[D6,G6,#[ns,rfl],hl,z1,z2,rfl]:=p;rw[li,ai] at hl;have W6:=W5.gr D6 G6;have e7:=Ex.snoc g6 (O.lst (ns.map D.int));have s7:=b8 (g:=g6) (o:=O.lst (ns.map D.int));have W7:=W6.at e7;have t7:=e7.at (G6.at () s5);have l7:sr<g6.length:=i8 (G6.at () s5);generalize g6++[_]=g7 at *;generalize g6.length=r7 at *;show num W7 t7 λv2 g8 W8 _ G8=>?_;have s8:=G8.at () s7;left;have e9:=Ex.snoc g8 (O.lst [D.int v2]);have s9:=b8 (g:=g8) (o:=O.lst [D.int v2]);have W9:=W8.at e9;have r9:=e9.at s8;have l9:d<g8.length:=W8.dr.lt;have l9':=i8 s8;have Qv:=i8 W8.C.c;generalize g8++[_]=g9 at *;generalize g8.length=u9 at *;refine j7 (k:=k+4) h4 W9.dr ∅ ∅ λr sG _ _ D10 GU=>?_;have qZ:=W9.gr D10 GU;have rG:=GU.at () s9;have Qg:=GU.at () r9;left;obtain⟨ms,si,fin⟩:∃ms:List Int,ms.length<=1/\(∀{Q:KD},Q (.ref sG.length) (sG++[.lst (ms.map .int)])->cL (.bin .Mult) [.ref u9,.int (if decide (r=0)=true then 1 else 0)] sG Q):=by
   by_cases hr:r=0
   ·refine#[[v2],by simp,λq=>?_];rw[aE hr];exact Jk rG ∅ ∅ #[_] q
   ·refine#[[],by simp,λq=>?_];rw[ax hr];exact Jk rG ∅ ∅ #[_] q
  refine fin ?_;have oj:=Ex.snoc sG (O.lst (ms.map D.int));have tR:=b8 (g:=sG) (o:=O.lst (ms.map D.int));have HA:=oj.at Qg;have oH:=qZ.at oj;generalize sG++[_]=uk at *;generalize sG.length=u11 at *;show b32 HA tR (by simp;omega) ?_;have jL:=Ex.snoc uk (O.lst (ns.map D.int++ms.map D.int));have rF:=b8 (g:=uk) (o:=O.lst (ns.map D.int++ms.map D.int));have oG:=oH.at jL;have k1:=i8 oH.C.c;have k2:=i8 oH.B.f;left;exact h _ _ oG λk=>Wf (ns:=ns++ms) hT.te oG ho (by rw[bE];exact rF) (by simp;omega) ()
 dsimp[U5] at rest;left;rw[ai,ai];refine if2 (λ_=>?_) (λ_=>?_)
 ·show if2 (λ_=>?_) (λ_=>?_)
  ·show rQ W2 λc g3 hc W3=>?_;show sL hc W3 λc g4 hc W4=>?_;left;exact h _ g4 W4 λk=>(NJ hT.te W4 hc).any
  ·exact rest
 ·exact pP rest
end
section
variable{hs:List α}{F F':α->a9}
def Af(F:α->a9)(hs:List α)(i:Nat):fk (hs.map F) i=match hs[i]? with|some p=>F p|none=>fk ([]:List a9) 0:=by
 simp only[fk,List.getD,List.getElem?_map];cases hs[i]?<;>rfl
def Mv(hr:∀r∈rs,r.w=.dR)(h:∀p,(F' p).lo=(F p).lo/\(F' p).lm=(F p).lm/\(F' p).um=(F p).um/\(F' p).yr=(F p).yr)(hu:∀p∈hs,∀q∈hs,(F' p).up=(F' q).up->(F p).up=(F q).up):many (hs.map F) v rs<=many (hs.map F') v rs:=by
 have lo:∀i,(fk (hs.map F') i).lo=(fk (hs.map F) i).lo/\(fk (hs.map F') i).yr=(fk (hs.map F) i).yr:=λi=>by
  rw[Af,Af];cases hs[i]? with
  |none=>exact#[rfl,rfl]
  |some p=>exact#[(h p).1,(h p).2.2.2]
 have wm:∀i j,i<hs.length->j<hs.length->mw (fk (hs.map F') i) (fk (hs.map F') j)=true->mw (fk (hs.map F) i) (fk (hs.map F) j)=true:=λi j hi hj e=>by
  rw[Af,Af,au hi,au hj] at e ⊢;let#[a1,a2,a3,_]:=h hs[i];let#[b1,b2,b3,_]:=h hs[j];unfold mw at e ⊢;dsimp only at e ⊢;rw[a1,a2,a3,b1,b2,b3] at e;rw[dN,aP,aP,dg,dg] at e ⊢;exact e.imp id λz=>#[hu _ (cj hi) _ (cj hj) z.1,z.2]
 have key:∀s,V0 (hs.map F) v rs s=(V0 (hs.map F') v rs s).filter (Y4 (hs.map F) v rs s):=λs=>by
  unfold V0;rw[ai,ai,List.filter_filter];refine gK λp hp=>?_;have hp:=bj.mp hp;cases hf:Y4 (hs.map F) v rs s p with
  |false=>rfl
  |true =>
   rw[gS];unfold Y4 at hf ⊢;rw[Nm,aP,aP] at hf;let#[f1,f2,f3]:=hf;rw[Nm,f1,gS];have n':(rs.all λr=>Aq (hs.map F') r s p)=true:=by
    rw[bt] at f3 ⊢;intro r q;have:=f3 r q;unfold Aq meant at this ⊢;rw[hr r q] at this ⊢;rw[ai] at this ⊢;exact this
   rw[n',Bool.and_true];have us:qP (hs.map F') s.testBit p=qP (hs.map F) s.testBit p:=by
    unfold qP uW;rw[show(hs.map F').map a9.lo=(hs.map F).map a9.lo by rw[aX,aX];exact bP λp _=>(h p).1,ai,ai];simp only[lo]
   have ly:X0 (hs.map F') s.testBit p=X0 (hs.map F) s.testBit p:=by
    unfold X0 kK;rw[ai,ai];simp only[lo]
   unfold GA at f2 ⊢;rw[us,ly];rw[aP,kG] at f2;rw[f2.2,Bool.and_true];refine((cT (!·) (bo.mpr λe=>?_)).trans rfl).symm;have g1:=f2.1;unfold Y8 at e g1;rw[ai,bw] at e;let#[i,hi,e]:=e;rw[aP] at e;rw[ai,gM] at g1;exact g1 i hi (by rw[aP];exact#[e.1,wm i p (bj.mp hi) hp e.2])
 unfold many;have hF:=Gi (hs.map F') v rs;rw[ai] at hF ⊢;rw[ai,LF hF key _ 0 (av _) (Nat.two_pow_pos _)];exact cJ _ _
end
section
variable{F:Int}{P:List Nat}
def Wg:∀{P l:List Nat},P.Sublist l->l.Nodup->l.filter (λx=>decide (x∈P))=P:=by
 intro P l h
 induction h with
 |slnil=>intro _;rfl
 |cons a h ih =>
  intro nd;rw[cP] at nd;rw[tN (by simpa using λz=>nd.1 (h.subset z))];exact ih nd.2
 |cons_cons a h ih =>
  intro nd;rw[cP] at nd;rw[tM #[_]]
  congr 1
  rw[<- ih nd.2];refine gK λx hx=>?_;have:x≠a:=λz=>nd.1 (z▸hx);simp[this,ih nd.2]
def Zk(inc:fh (nums hs)){p q}(hp:p∈hs)(hq:q∈hs)(e:p.1=q.1):p=q:=by
 let#[i,hi]:=cI.mp hp;let#[j,hj]:=cI.mp hq;have nd:(nums hs).Nodup:=inc.imp λz=>by omega
 have:i=j:=zX nd (a:=p.1) (by unfold nums;rw[ah,hi];rfl) (by unfold nums;rw[ah,hj,e];rfl);subst this;rw[hi] at hj;exact aG hj
def zL(inc:fh (nums hs)){p}(hp:p∈hs):p.1∈numsOf hs f v↔H9 f p.2=v:=by
 unfold numsOf;rw[ao];constructor
 ·rintro⟨q,hq,e⟩;let#[h1,h2]:=aS.mp hq;rw[<- Zk inc h1 hp e];exact aM h2
 ·exact λe=>#[p,aS.mpr #[hp,aE e],rfl]
def KQ:d8 (k9 hs P f v)=hs.map λp=>if p.1∈P then p.2.re f v else p.2:=by
 unfold d8 k9;rw[aX];refine bP λp _=>?_;dsimp only[Function.comp];split<;>rfl
def Oo:∀r∈Q3 hs fs,r.w=.dR:=λr hr=>by
 let#[_,_,rfl]:=ao.mp hr
 rfl
def PQ(c:a9)(v:Int):c.re 2 v={ c with up:=v }:=rfl
def xV(c:a9):H9 2 c=c.up:=rfl
def Ve{w}(inc:fh (nums hs))(hP:∀n∈P,n∈numsOf hs 2 v)(hF:F∉q9 hs 2):many (d8 hs) w (Q3 hs fs)<=many (d8 (k9 hs P 2 F)) w (Q3 hs fs):=by
 rw[KQ];refine Mv Oo (λp=>?_) λp hp q hq e=>?_
 ·split<;>exact#[rfl,rfl,rfl,rfl]
 ·have hn:∀p∈hs,p.2.up≠F:=λp hp z=>hF (ao.mpr #[p.2,ao.mpr #[p,hp,rfl],z]);have hv:∀p∈hs,p.1∈P->p.2.up=v:=λp hp z=>(zL inc hp).mp (hP _ z);split at e
  ·rename_i c1;split at e
   ·rename_i c2;exact(hv p hp c1).trans (hv q hq c2).symm
   ·exact absurd e.symm (hn q hq)
  ·split at e
   ·exact absurd e (hn p hp)
   ·exact e
def Xb{w}(inc:fh (nums hs)):many (d8 (k9 hs (numsOf hs 2 u) 2 v)) w (Q3 hs fs)<=many (d8 hs) w (Q3 hs fs):=by
 rw[KQ];refine Mv Oo (λp=>?_) λp hp q hq e=>?_
 ·split<;>exact#[rfl,rfl,rfl,rfl]
 ·have:p.1∈numsOf hs 2 u↔q.1∈numsOf hs 2 u:=by rw[zL inc hp,zL inc hq,xV,xV,e]
  by_cases c:p.1∈numsOf hs 2 u
  ·rw[aH c,aH (this.mp c)];rfl
  ·rw[az c,az λz=>c (this.mpr z)];exact e
def Om(inc:fh (nums hs))(hP:P.Sublist (numsOf hs 2 v))(hF:F∉q9 hs 2):numsOf (k9 hs P 2 F) 2 F=P:=by
 have sub:P.Sublist (nums hs):=hP.trans (dA.map _);have nd:(nums hs).Nodup:=inc.imp λz=>by omega
 refine Eq.trans ?_ (Wg sub nd);unfold numsOf k9 nums;rw[eV,eV,aX];refine(cT (List.map _) (gK (q:=λp:Nat×a9=>decide (p.1∈P)) λp hp=>?_)).trans (bP λp _=>?_)
 ·dsimp only[Function.comp];have:p.2.up≠F:=λz=>hF (ao.mpr #[p.2,ao.mpr #[p,hp,rfl],z]);split
  ·rename_i c;simp[c,PQ,xV]
  ·rename_i c;simp[c,xV,this]
 ·dsimp only[Function.comp];split<;>rfl
def WO(inc:fh (nums hs))(hP:P.Sublist (numsOf hs 2 v)):k9 (k9 hs P 2 F) P 2 v=hs:=by
 unfold k9;rw[aX];refine(bP λp hp=>?_).trans (jh hs);dsimp only[Function.comp,id];by_cases c:p.1∈P
 ·have:=(zL inc hp).mp (hP.subset c);rw[xV] at this;subst this;simp only[c,if_true]
  rfl
 ·simp only[c,if_false]
def Wn(inc:fh (nums hs))(h1:1<=n)(h2:n<(numsOf hs 2 v).length):A7 hs 2 v (((numsOf hs 2 v).take n).map λn:Nat=>(n:Int))="":=by
 have nd:((numsOf hs 2 v).take n).Pairwise (· < ·):=(Lf inc 2 v).sublist (dU _ _);unfold A7;rw[az (λz=>by rw[z] at h2;exact absurd h2 (iK _)),aH,az]
 ·unfold N9;rw[T7 (ks:=[]) (by rw[List.nil_append];exact cF.mpr (nd.imp λz e=>by omega)),List.nil_append,ai,bG,Nat.min_eq_left (),ax (),ax (),ax ()]
  decide
 ·rw[bt];intro x hx;let#[i,hi,rfl]:=ao.mp hx;exact aE (ao.mpr #[i,List.mem_of_mem_take hi,rfl])
def Vm(inc:fh (nums hs))(h1:1<=n)(h2:n<(numsOf hs 2 v).length)(hF:F∉q9 hs 2):x8 (k9 hs ((numsOf hs 2 v).take n) 2 F) 2 v F="":=by
 have nz:numsOf hs 2 v≠[]:=λz=>by rw[z] at h2;exact absurd h2 (iK _)
 unfold x8;have ne:¬v=F:=λz=>hF (by rw[<- z];exact N6.mpr nz);rw[Om inc (dU _ _) hF,az,az ne];rintro(z|z)
 ·have hm:(numsOf hs 2 v)[n]∈numsOf hs 2 v:=cj h2;let#[p,hp,e]:=ao.mp hm;let#[p1,p2]:=aS.mp hp;have ni:p.1∉(numsOf hs 2 v).take n:=λy=>by
   let#[j,hj]:=cI.mp y;have jl:=(aw.mp hj).1;rw[bG] at jl;rw[eQ ()] at hj;have:j=n:=zX (l:=numsOf hs 2 v) ((Lf inc 2 v).imp λz=>by omega) hj (by rw[au h2,e]);omega
  have:p.1∈numsOf (k9 hs ((numsOf hs 2 v).take n) 2 F) 2 v:=ao.mpr #[p,aS.mpr #[ao.mpr #[p,p1,by rw[az ni]],p2],rfl];rw[z] at this;cases this
 ·have:=cT List.length z;rw[bG,List.length_nil] at this;omega
end
abbrev Eb:aR:=#[1,14,(.seq (.set 1 (.call 3 (cX aA))) (.seq (.set 2 (.make "Cabinet" 208 .nil)) (.seq (.set 3 (.call 195 .nil)) (.seq (.fg (.one 4) (.fL (bN (.bin .Add) (aT 8) (.call 4 (cY aL (aT 13))))) (.seq (.set 5 (.call 235 (cY aL bx))) (.seq (.ifs (.de (.eB (.call 191 (cY (.call 234 (cY aV fz)) (.call 204 (cY bx fz)))))) (.seq (.ret (.lit (.bl false))) .pass) .pass) .pass))) (.seq (.set 6 (bN (.bin .Add) (aT 1) (.call 4 (cY aL (aT 3))))) (.seq (.set 7 (.bK "many" [("Cabinet",226)] aV (cX gy))) (.seq (.set 8 (cB .sset (.comp [] 2 (.one 1) (.eZ (.call 196 (cX bx))) .no (bA aL (aT 2))))) (.seq (.fg (.one 9) (.eZ jk) (.seq (.set 10 (.call 201 (fj bx (cv "upper") mM))) (.seq (.ifs (cN .Gt (cB .len mO) (aT 1)) (.seq (.set 11 (bN (.lY false true) mO (bN (.bin .Add) (aT 1) (.call 4 (cY aL (bN (.bin .Sub) (cB .len mO) (aT 1))))))) (.seq (.set 12 (.bK "two_dies" [("Cabinet",220)] aV (fj (cv "upper") mM (cB .list qp)))) (.seq (.ifs (.gF (cN .In qo jk) (cN .Lt (.bK "many" [("Cabinet",226)] aV (cX gy)) jm)) (.seq (.ret (.lit (.bl false))) .pass) .pass) (.seq (.ifs (.gF (.de (.eB (.call 7 (cY (.bK "one_die" [("Cabinet",219)] aV (fj (cv "upper") mM qo)) qp)))) (cN .NotEq (.bK "many" [("Cabinet",226)] aV (cX gy)) jm)) (.seq (.ret (.lit (.bl false))) .pass) .pass) .pass)))) .pass) .pass))) (.seq (.ifs (.de (.eB (.call 207 (cY aV bx)))) (.seq (.ret (.lit (.bl false))) .pass) .pass) (.seq (.ifs (cN .Gt (cB .len jk) (aT 1)) (.seq (.set 13 (.call 4 (cY aL (cB .len jk)))) (.seq (.expr (.bK "one_die" [("Cabinet",219)] aV (fj (cv "upper") (bA jk qm) (bA jk (bN (.bin .Mod) (bN (.bin .Add) (bN (.bin .Add) qm (aT 1)) (.call 4 (cY aL (bN (.bin .Sub) (cB .len jk) (aT 1))))) (cB .len jk)))))) (.seq (.ret (bN (.cmp .LtE) (.bK "many" [("Cabinet",226)] aV (cX gy)) jm)) .pass))) .pass) (.seq (.ret (.lit (.bl true))) .pass)))))))))))]
structure OR(T:Nat->Option aR):Prop where
 tg:TG T
 tb:TB T
 tf:TF T
 tw:TW T
 ng:T 126=some xR
 mZ:T 213=some C0
 sx:T 226=some S7
 h3:T 3=some Ao
 yZ:T 11=some Eb
section
variable{T:Nat->Option aR}{d:Nat}{s:Sd}
def YK{l:List α}(h:n<=l.length):cut l none (some (n:Int))=l.take n:=by
 have:¬((n:Int)<0):=by omega
 unfold cut HT.dY;simp[this]
 try rw[Nat.min_eq_left h]
def Ag(hT:OR T)(C:fT g m hd cl lc lf hs fs)(O1:ij hs)(K:jU s)(hf:s.lf<=40)(e1:nums hs=nums s.hs)(e2:fs=s.fs)(hv:1<=v/\v<=9)(h:∀g',Ex g g'->Q (.int (many (d8 hs) v (Q3 s.hs s.fs):Nat)) g'):b7 T (k+12) 226 [.ref m,.int v] g Q E:=by
 subst e2;have fl:=K.fl;have CA:∀c∈d8 hs,CB c:=λc hc=>by
  let#[p,hp,rfl]:=ao.mp hc;exact#[(O1.good p hp).l8,(O1.good p hp).u8]
 refine az3 (k:=k) hT.tg.te.tc hT.tb hT.tf hT.tw hT.ng hT.mZ hT.sx C O1 CA K.inc () (K.inf.more λn hn=>e1▸hn) hv λg' e=>?_;have:=h g' e;unfold many at this;rw[show(d8 hs).length=hs.length by simp[d8],show Q3 s.hs s.fs=Q3 hs s.fs by unfold Q3 kc;rw[e1]] at this;exact this
def Va(hT:OR T):b7 T (k+13) 11 [.ref 0] [.pH (ns.map .int)] (λd _=>d=.bl true) jt:=by
 have h4:=hT.tg.te.td.h4;refine call_of hT.yZ rfl ?_;delta Eb;show bB0 (k:=k+11) hT.h3 (a:=0) (ns:=ns) rfl λd g D0 _ _=>?_;have dl:=D0.lt;show bE3 (k:=k+11) hT.tg.te.tc #[rfl,?_];show bE4 (k:=k+11) hT.tg.te.td ?_;let#[g1,m,hd,cl,q,qc,qf,eg,em,eq,W]:=Uy D0;rw[eg,em,eq];show K4 (a8 T _) (xW (a8 T _) ?_);show j7 (k:=k+11) h4 W.dr ∅ ∅ λr g2 r0 r1 D2 G2=>?_;show#[by omega,by omega,_,λi Z g'=>(∃cl s,Wd g' d m hd cl q qc qf s/\s.lf<=i)/\∃z4 z5,Z=[some (.ref 0),some (.ref d),some (.ref m),some (.ref q),z4,z5,none,none,none,none,none,none,none,none],λ_ _ _ _=>L3,#[#[cl,_,W.gr D2 G2,av _],none,none,rfl],λi y Z g3 hy p=>?_,λZ g3 p=>?_]
 ·let#[#[cl,s,W3,hl],z4,z5,rfl]:=p;let#[hi,rfl]:=U1 hy;have fl:=W3.K.fl;refine j9 ?_
  try show wpS _ _ _ _ _ _
  show bD9 (k:=k+6) hT.tg W3 () λdd g4 W4 S=>?_;show a8 T _ _ _ _ _ _ _ _ (λy1 g1 z1=>?_) (λ_ _ z=>z) (bE5 (k:=k) hT.tg W4 (S _));show a8 T _ _ _ _ _ _ _ _ (λy2 g2 z2=>?_) (λ_ _ z=>z) z1;show a8 T _ _ _ _ _ _ _ _ (λy g' z=>?_) (λ_ _ z=>z) z2;let#[rfl,js,s',W',vZ]:=z;left;exact#[#[js,s',W',by omega],_,_,rfl]
 let#[#[cl,s,W3,hl],z4,z5,rfl]:=p;rw[O3] at hl;have hf:s.lf<=40:=by omega
 have K:=W3.K;have fl:=K.fl;have O1:=K.K;have hz:=O1.len;have ad:=W3.A.h
 try show wpS _ _ _ _ _ _
 show j7 (k:=k+11) h4 W3.dr ∅ ∅ λr2 g4 t0 t1 D4 G4=>?_;have W4:=W3.gr D4 G4;show i0 W4.C.o rfl rfl ?_;left;have hv:1<=1+r2/\1+r2<=9:=by omega
 generalize 1+r2=v at *;refine Ag (k:=k) hT W4.C O1 K hf rfl rfl hv λg5 e5=>?_;have W5:=W4.at e5;show L4 (α:=a9) (a8 T _) (iH (a8 T _) ?_);show X2 (k:=k+11) hT.tg.te.td W5.B O1.inc () λg6 r6 e6 l6 yL=>?_;refine#[r6,_,rfl,a7 yL,d8 s.hs,a9.d,λZ=>∃z1 z2,Z=[z1,z2],λ_=>true,λc=>.int (H9 2 c),λg' e=>n9 (a7 (e.at yL)),by simp[d8];omega,#[none,none,rfl],λc Z g' hp e sh=>?_,λg7 e7=>?_]
 ·let#[z1,z2,rfl]:=sh;refine j9 (M3 #[rfl,e,iV ?_]);left;exact A9 (uA (.inr rfl) c) #[rfl,e,_,_,rfl]
 rw[O7];have e8:=(e6.trans e7).trans (Ex.snoc g7 (O.lst ((d8 s.hs).map λc=>D.int (H9 2 c))));refine Ox (ns:=q9 s.hs 2) (a7 (by unfold q9;rw[aX];exact b8)) (by simp[d8,q9];omega) ?_;generalize g7++[_]=g8 at *;have e9:=e8.trans (Ex.snoc g8 (O.lst ((m5 (q9 s.hs 2)).map .int)));have s9:=b8 (g:=g8) (o:=O.lst ((m5 (q9 s.hs 2)).map .int));have l9:=e8.len;have dz:(m5 (q9 s.hs 2)).length<=9:=aD (Q6 _) (by simpa[q9,d8] using hz);have W9:=W5.at e9;have k1:=i8 W5.C.c;have k2:=i8 W5.C.h;have k3:=i8 W5.B.f;generalize g8++[_]=g9 at *;generalize hsr:g8.length=sr at *;have nd:=Vi (q9 s.hs 2);have mem:=λx=>Xc (ns:=q9 s.hs 2) (x:=x);generalize m5 (q9 s.hs 2)=jM at *;have nsr:sr≠hd/\d<sr:=by have:=W5.dr.lt;omega
 show K4 (a8 T _) (iH (a8 T _) ?_);show#[sr,_,rfl,a7 s9,jM.map .int,λi Z g'=>(Wd g' d m hd cl q qc qf s/\g'[sr]?=some (.lst (jM.map .int)))/\∃z9 AV AU AS,Z=[some (.ref 0),some (.ref d),some (.ref m),some (.ref q),z4,z5,some (.int v),some (.int (many (d8 s.hs) v (Q3 s.hs s.fs):Nat)),some (.ref sr),z9,AV,AU,AS,none],λi Z g' p=>n9 (a7 p.1.2),#[#[W9,s9],_,_,_,_,rfl],λi y Z g' hy p=>?_,λZ g' p=>?_]
 ·let#[#[qZ,rG],z9,AV,AU,AS,rfl]:=p;rw[ah,aa] at hy;let#[iX,hi,rfl]:=hy;have Rp:=(mem iX).mp (aJ hi);refine j9 ?_
  try show wpS _ _ _ _ _ _
  show uK (k:=k+11) hT.tg.te.td qZ.B O1.inc () λuk HA oj l11 yZ=>?_;have oH:=qZ.at oj;have tR:=oj.at rG;rw[show fX "upper"=2 by decide +kernel] at yZ;left;rw[show(b0 (numsOf s.hs 2 iX)).length=(numsOf s.hs 2 iX).length by simp[b0]];refine if2 (λc1=>?_) (λc1=>uJ #[#[oH,tR],_,_,_,_,rfl]);have lz:=aD (numsOf_len s.hs 2 iX) hz;left;rw[show(b0 (numsOf s.hs 2 iX)).length=(numsOf s.hs 2 iX).length by simp[b0]];refine j7 (k:=k+11) h4 oH.dr () () λvy uj t2 t3 AH pX=>?_;have oG:=oH.gr AH pX;have rF:=pX.at () tR;have mq:=pX.at (by have:=i8 rG;omega) yZ;left;obtain⟨n,hn⟩:∃n:Nat,1+vy=n:=#[(1+vy).toNat,by omega]
  rw[hn];have n1:1<=n:=by omega
  have n2:n<(numsOf s.hs 2 iX).length:=by omega
  refine OC (a7 mq) ?_;rw[YK (by simp[b0];omega),show(b0 (numsOf s.hs 2 iX)).take n=b0 ((numsOf s.hs 2 iX).take n) by simp[b0,List.map_take]];have tw:=Wn O1.inc n1 n2;have ow:=λ{F:Int}=>Vm (F:=F) O1.inc n1 n2;have pl:((numsOf s.hs 2 iX).take n).length<=9:=by rw[bG];omega
  have pp:=λ{F:Int}=>Om (F:=F) O1.inc (dU n (numsOf s.hs 2 iX));have gb:=λ{F:Int}=>WO (F:=F) O1.inc (dU n (numsOf s.hs 2 iX));have mp:=λ{F:Int}=>Ve (F:=F) (fs:=s.fs) (w:=v) O1.inc (λn' BR=>(dU n (numsOf s.hs 2 iX)).subset BR);generalize (numsOf s.hs 2 iX).take n=P at *;have jb:=Ex.snoc uj (O.lst (b0 P));have vt:=b8 (g:=uj) (o:=O.lst (b0 P));have AA:=oG.at jb;have Pu:=jb.at rF;have l12:=i8 rF;have m1:=i8 oG.C.c;have m2:=i8 oG.C.h;have m3:=i8 oG.B.f;generalize uj++[_]=wM at *;generalize uj.length=ql at *;show i0 AA.C.o rfl rfl ?_;show GD (a7 vt) ?_;have qJ:=Ex.snoc wM (O.lst (b0 P));have Hu:=b8 (g:=wM) (o:=O.lst (b0 P));have uX:=AA.at qJ;have Pn:=qJ.at vt;have Pt:=qJ.at Pu;have l13:=i8 vt;generalize wM++[_]=Sq at *;generalize wM.length=Qf at *;rw[L7] at Hu;left;let#[F,hF]:=Mn (q9 s.hs 2);have Iw:=hF.le;have dl:(q9 s.hs 2).length<=9:=by simpa[q9,d8] using hz
  refine OM (k:=k+4) (w:=.upper) hT.tg.te.tc (λz=>by cases z) uX.C O1 () () Hu (by simp;omega) () hF (λz=>absurd tw z) λ_ IJ va yj=>?_;have Hl:=va.at () Pt;have Pm:=va.at () Pn;have D15:=uX.dr.gr va ();have GX:hX IJ q qc qf s.lc s.lf s.hs s.fs:=#[va.at () uX.B.b,va.at () uX.B.c,va.at () uX.B.f]
  rw[show(P.map λn:Nat=>(n:Int)).map Int.toNat=P from(aX ..).trans (jh P),show cu .upper=2 from rfl] at yj;have O2:ij (k9 s.hs P 2 F):=O1.give hF.pos ();have mp:=mp hF.no;have pp:=pp hF.no;have ow:=ow hF.no;have gb:=gb (F:=F);have nm:=F0 s.hs P 2 F;generalize k9 s.hs P 2 F=hJ at *;show qN (Oa (a7 Hl) ?_);rw [show (jM.any λm=>m == F)=false from bo.mpr λz=>by
   let#[x,hx,e]:=bw.mp z;exact hF.no ((mem F).mp (eX.mp e ▸ hx))]
  show i0 yj.o rfl rfl ?_;show Ag (k:=k) hT yj O2 K hf nm rfl hv λg16 jx=>?_;show ei (ax ()) ?_;show i0 (yj.at jx).o rfl rfl ?_;show FJ (k:=k+7) (w:=.upper) hT.tg.te.tc (λz=>by cases z) (yj.at jx) O2 () () (λz=>absurd ow z) λ_ So Qe uZ l17 Dk AI=>?_;rw[show cu .upper=2 from rfl] at AI Dk;rw[pp] at AI Dk;rw[gb] at AI;have x16:=jx.len;have W17:Wd So d m hd cl q qc qf s:=#[(jx.draw D15).gr uZ (),AI,#[uZ.at () (jx.at GX.b),uZ.at () (jx.at GX.c),uZ.at () (jx.at GX.f)],K,uX.A]
  show R6 hT.tg.te.h6 hT.tg.te.h7 2 (k:=k+8) (jO.Kq (an:=.lst P) (by change P.length<=1000;omega) #[Qe,rfl,bO _,Dk] #[ql,rfl,bO _,uZ.at () (jx.at Pm)]) λg18 IS=>?_;have GL:=W17.at IS;show i0 GL.C.o rfl rfl ?_;show Ag (k:=k) hT GL.C O1 K hf rfl rfl hv λg19 IQ=>?_;show ei #[_] (uJ ?_);exact#[#[GL.at IQ,(IS.trans IQ).at (uZ.at () (jx.at Hl))],_,_,_,_,rfl]
 ·let#[#[qZ,rG],z9,AV,AU,AS,rfl]:=p
  try show wpS _ _ _ _ _ _
  show aZ9 (k:=k+6) hT.tg.te qZ.C qZ.B O1 K.inc () λuk oj=>?_;have oH:=qZ.at oj;have tR:=oj.at rG;left;rw[ai];refine if2 (λc1=>?_) (λc1=>uJ ?_)
  rotate_left
  ·left;rfl
  left;rw[ai];refine j7 (k:=k+11) h4 oH.dr () () λvy uj t2 t3 AH pX=>?_;have oG:=oH.gr AH pX;have rF:=pX.at () tR;show i0 oG.C.o rfl rfl ?_;left;obtain⟨i,rfl⟩:∃i:Nat,vy=i:=#[vy.toNat,by omega]
  have Ln:∀{i:Nat} (hi:i<jM.length),jc (jM.map D.int) (i:Int)=some (.int jM[i]):=λ{i} hi=>O9 (by rw[ah,au hi];rfl);refine E5 (a7 rF) (Ln ()) ?_;left;rw[ai];refine j7 (k:=k+11) h4 AH () () λql wM t4 t5 D13 OX=>?_;have AA:=oG.gr D13 OX;have vt:=OX.at () rF;left;rw[ai];refine Z8 () ?_;obtain⟨j,hj⟩:∃j:Nat,((i:Int)+1+ql) % (jM.length:Nat)=j:=#[(((i:Int)+1+ql) % (jM.length:Nat)).toNat,by have:=fR ((i:Int)+1+ql) (b:=(jM.length:Nat)) ();omega]
  have jl:j<jM.length:=by have:=eY ((i:Int)+1+ql) (b:=(jM.length:Nat)) ();omega
  have ne:i≠j:=λz=>by
   subst z;by_cases q:(i:Int)+1+ql<(jM.length:Nat)
   ·rw[Int.emod_eq_of_lt () q] at hj;omega
   ·have:((i:Int)+1+ql-(jM.length:Nat)) % (jM.length:Nat)=i:=by rw[Int.sub_emod_right];exact hj
    rw[Int.emod_eq_of_lt () ()] at this;omega
  rw[hj];refine E5 (a7 vt) (Ln jl) ?_;left;have il:i<jM.length:=by omega
  have nv:jM[i]≠jM[j]:=λz=>ne ((lK nd).mp z);have m1:=(mem _).mp (cj il);have m2:=(mem _).mp (cj jl);generalize jM[i]=v1 at *;generalize jM[j]=v2 at *;have ow:x8 s.hs 2 v1 v2="":=by
   unfold x8;rw[az (λz=>z.elim (N6.mp m1) (N6.mp m2)),az nv]
  refine FJ (k:=k+7) (w:=.upper) hT.tg.te.tc (λz=>by cases z) AA.C O1 () () (λz=>absurd ow z) λ_ Sq Qf G14 l14 yX GW=>?_;rw[show cu .upper=2 from rfl] at GW;have hg:=Nj (f:=2) O1 (N6.mp m1);show i0 GW.o rfl rfl ?_;show Ag (k:=k) hT GW (O1.give hg.1 hg.2) K hf (F0 _ _ _ _) rfl hv λIJ qI=>?_;left;have:=Xb (u:=v2) (v:=v1) (fs:=s.fs) (w:=v) O1.inc;exact cT D.bl (aE ())
end
end M
namespace Lk
open PySem L2 M
abbrev top(i:Nat):Stmt:=PySem.Challenge.pw_trussel_k58_whole_upper_dies_parted.main.body.getD i (.Pass #[0,0,0,0])
abbrev bE1:Stmt->List Stmt
 |.ClassDef (body:=b) ..=>b
 |_=>[]
abbrev Kt(i j:Nat):Stmt:=(bE1 (top i)).getD j (.Pass #[0,0,0,0])
abbrev F:List RF:=[#[38,"is_number",["thing"],1,18,EF],#[1,"number_from",["number","least","most"],3,19,Fi],#[2,"good_marks",["marks","least","spot"],1,20,O4],#[15,"within",["one","other"],2,21,zB],#[12,"good_coin",["coin","lower","lower_marks","upper","upper_marks","year","good_lower","good_upper"],1,28,E9],#[39,"check_coin",["coin"],1,29,S3],#[18,"check_coins",["coins","coin"],1,30,Fg],#[40,"check_side",["side"],1,32,Z4],#[19,"die_field",["side"],1,33,ED],#[177,"with_thing",["things","at","thing"],3,34,Z3],#[74,"places_of",["coins","word","thing","field"],3,35,X6],#[75,"check_die",["coins","side","die"],3,36,EC],#[20,"dies_of",["coins","side","field"],2,37,xI],#[42,"check_anvils",["anvils"],1,42,N1],#[88,"good_rule",["coins","rule","word","one","other"],2,43,EE],#[89,"check_rules",["coins","rules","at","rule"],2,44,Fh],#[90,"stand_of",["places"],1,45,zJ],#[91,"with_coin",["stand","place"],2,46,zW],#[92,"more_worn",["one","other","side","field"],2,47,Og],#[93,"later",["one","other"],2,48,FF],#[94,"worn_stands",["coins"],1,49,LB],#[95,"later_stands",["coins"],1,50,LO],#[96,"die_stands",["coins"],1,51,ET],#[97,"needed_stands",["coins","rules","needed","word","one","other","first","place"],2,52,Y0],#[98,"check_asked",["coins","anvils","rules"],3,54,V8],#[99,"bounds_of",["coins","anvils","rules"],3,55,EB],#[100,"dies_in_use",["bounds","stand","place","struck","left"],3,56,EU],#[101,"next_fault",["bounds","stand","place"],3,57,EV],#[115,"follows",["bounds","stand","place"],3,59,zH],#[116,"followers",["bounds","stand"],2,60,Lb],#[117,"reached_stands",["bounds","led_to","told","stand","place"],1,61,U2],#[121,"ways_on",["bounds","ways","stand"],1,63,Gm],#[126,"how_many",["coins","anvils","rules"],3,68,xR],#[194,"least_free",["dies","number"],1,78,Lc],#[3,"_law_open",["_law_script"],1,81,Ao],#[4,"_law_pull",["_law_draw","_law_total_of","_law_cell","_law_got","_law_seed"],2,82,P9],#[5,"_law_far",["_law_draw","_law_number"],1,83,sV],#[36,"_law_near",["_law_draw","_law_total_of"],2,84,GH],#[6,"_law_num",["_law_found"],1,85,xX],#[7,"_law_like",["_law_found","_law_due"],2,86,M4],#[8,"_law_marks_ok",["_law_marks"],1,87,xS],#[13,"_law_coin_ok",["_law_coin"],1,88,U3],#[22,"_law_any_coin",["_law_draw","_law_menu","_law_lower","_law_upper","_law_year"],1,89,zG],#[14,"_law_bent_coin",["_law_draw","_law_coin","_law_way","_law_lower","_law_lower_marks","_law_upper","_law_upper_marks","_law_year","_law_odd","_law_number"],2,90,zV],#[37,"_law_number_of",["_law_draw","_law_numbers"],2,91,EG],#[29,"_law_side",["_law_draw"],1,92,Ap],#[191,"_law_same_end",["_law_found","_law_due"],2,93,Ep],#[195,"_law_box",[],0,94,Ea],#[196,"_law_box_list",["_law_b"],1,95,Eo],#[197,"_law_b_put",["_law_b","_law_coin"],2,96,GG],#[198,"_law_b_out",["_law_b","_law_number","_law_fact"],2,97,GF],#[199,"_law_b_tell",["_law_b","_law_one","_law_other"],3,98,FE],#[200,"_law_other_die",["_law_coin","_law_side_here","_law_die","_law_row"],3,99,EH],#[201,"_law_b_of",["_law_b","_law_side_here","_law_die","_law_at"],3,100,DZ],#[202,"_law_b_one",["_law_b","_law_side_here","_law_die","_law_other","_law_found","_law_number"],4,101,Am],#[203,"_law_b_two",["_law_b","_law_side_here","_law_die","_law_numbers","_law_found","_law_number","_law_fresh"],4,102,An],#[204,"_law_b_do",["_law_b","_law_deed","_law_word","_law_old"],2,103,pQ],#[205,"_law_cabinet_do",["_law_cabinet","_law_deed","_law_word"],2,104,E3],#[234,"_law_cabinet_try",["_law_cabinet","_law_deed"],2,105,Ff],#[206,"_law_new_coin",["_law_draw","_law_b","_law_some","_law_coin","_law_other","_law_grown"],2,106,zI],#[232,"_law_box_die",["_law_draw","_law_b","_law_side_here","_law_at"],3,107,zA],#[235,"_law_box_deed",["_law_draw","_law_b","_law_numbers","_law_turn","_law_side_here","_law_die","_law_some"],2,108,U5],#[207,"_law_box_stands",["_law_cabinet","_law_b","_law_numbers"],2,109,ES],#[11,"law",["_law_script","_law_draw","_law_cabinet","_law_b","_law_turn","_law_deed","_law_anvils","_law_total","_law_dies","_law_die","_law_some","_law_part_of","_law_fresh","_law_at"],1,110,Eb]]
abbrev Ms:List RM:=[#[113,"Bounds","__init__","Bounds.__init__",["self","coins","anvils","rules"],4,53,0,Fd],#[208,"Cabinet","__init__","Cabinet.__init__",["self"],1,79,0,Fn],#[209,"Cabinet","check_number","Cabinet.check_number",["self","number"],2,79,1,F9],#[210,"Cabinet","check_pair","Cabinet.check_pair",["self","one","other"],3,79,2,P2],#[211,"Cabinet","numbers_of","Cabinet.numbers_of",["self","side","die","field"],3,79,3,P1],#[212,"Cabinet","give_die","Cabinet.give_die",["self","side","numbers","die","field","number"],4,79,4,T1],#[213,"Cabinet","fact_rules","Cabinet.fact_rules",["self","places"],1,79,5,C0],#[214,"Cabinet","put","Cabinet.put",["self","coin"],2,79,6,P6],#[215,"Cabinet","right","Cabinet.right",["self","number","coin","old"],3,79,7,Y1],#[216,"Cabinet","out","Cabinet.out",["self","number"],2,79,8,Fe],#[217,"Cabinet","tell","Cabinet.tell",["self","one","other"],3,79,9,Fo],#[218,"Cabinet","untell","Cabinet.untell",["self","number"],2,79,10,U4],#[219,"Cabinet","one_die","Cabinet.one_die",["self","side","die","other","numbers"],4,79,11,O5],#[220,"Cabinet","two_dies","Cabinet.two_dies",["self","side","die","numbers","all_of_die","number","new_die"],4,79,12,M5],#[221,"Cabinet","numbers","Cabinet.numbers",["self"],1,79,13,S5],#[222,"Cabinet","coin","Cabinet.coin",["self","number"],2,79,14,T2],#[223,"Cabinet","coins","Cabinet.coins",["self"],1,79,15,Y3],#[224,"Cabinet","facts","Cabinet.facts",["self"],1,79,16,Y2],#[226,"Cabinet","many","Cabinet.many",["self","anvils"],2,79,18,S7]]
abbrev con:List (Str×D):=[("LAST_SPOT",.int 7),("MOST_COINS",.int 9),("LAST_DIE",.int 99),("LAST_YEAR",.int 9999),("SIDES",.tup [(.str "lower"),(.str "upper")]),("MOST_ANVILS",.int 9),("RULE_WORDS",.tup [(.str "coin"),(.str "lower"),(.str "upper")]),("YEAR_FIELD",.int 4)]
abbrev gd:List (Str×List D):=[("DIE_FIELDS",[.tup [.str "lower",.int 0],.tup [.str "upper",.int 2]])]
abbrev exc:List Str:=["BadAnvils","BadCoin","BadList","BadRule","BadSide","Full","MintError","NoCoin","NoDie","NoFact","NoOrder","NoPlace","SameOne","TooMany"]
abbrev c0:j4:=#[[],[],true,F.map λr=>(r.nm,r.id),con,["len","enumerate","list","tuple","isinstance","all","range","int","bool","str","sorted","set","sum","reversed"],exc,gd,[("Bounds",113),("Cabinet",208)],Ms.map λr=>(r.nm,r.cl,r.id),[("size","Bounds"),("full","Bounds"),("room","Bounds"),("worn_by_place","Bounds"),("later_by_place","Bounds"),("lower_dies","Bounds"),("needed_by_place","Bounds"),("held","Cabinet"),("claims","Cabinet"),("last_coin","Cabinet"),("last_fact","Cabinet")],true,true,true]
noncomputable abbrev T:Nat->Option aR:=uV F Ms
def tx:lC c0 F Ms top Kt:=by
 refine#[rfl,rfl,by decide +kernel,by decide +kernel,by decide +kernel,by decide +kernel,?_,?_,?_,?_]
 all_goals
  repeat first
   |exact BF.nil
   |exact BM.nil
   |exact YF.nil
   |exact YM.nil
   |refine YF.cons (by kernel_rfl) ?_
   |refine YM.cons (by kernel_rfl) ?_
   |refine BF.cons (λ_ _ _ _ _ _=>(by(repeat refine Hk λ_=>?_);exact Hj rfl)) ?_
   |refine BM.cons (λ_ _ _ _ _ _=>(by(repeat refine Hk λ_=>?_);exact Hj rfl)) ?_
inductive uN:List DictEntry->List (Str×V)->Prop
 |nil:uN [] []
 |cons {h:Int} {x:Str} {t:Tok} {u:Value} {v:V} {es:List DictEntry} {vs:List (Str×V)} (r:RelV v u) (q:uN es vs):uN (#[h,.str x t,u]::es) ((x,v)::vs)
def uN.find{es vs}(x:Str)(h:uN es vs):J0 (vs.lookup x) (findBy Value.isStrOf es.toArray x):=by
 induction h with
 |nil=>trivial
 |cons r q ih =>
  rename_i h y t u v es vs;unfold findBy at ih ⊢;rw[List.find?_toArray] at ih ⊢;rw[df,dC];by_cases e:x=y
  ·rw[show(x==y)=true from by simp[e],show Value.isStrOf x (.str y t)=true from by simp[Value.isStrOf,e]];exact r
  ·rw[show(x==y)=false from by simpa using e,show Value.isStrOf x (.str y t)=false from by simp[Value.isStrOf];exact λz=>e (z.symm)];exact ih
def all_mk{l:PySem.W.OpenLaw}{w:World}{K:PySem.W.Frag}{h:Heap}{mg:Str->Option Value}{fa:Addr}{DM DL za:Addr}{t0 t1 t2 t3 wZ wY t5 wX wW wV t7 qG qE qD qz:Tok}{DH:Array (Option Value)}{DJ:Nat}{DG:Array (Option Value)}{DI:Nat}{Si:Nat}{nj nh:Int}(X:K.In h)(G:h.Ns mainGlobals mg)(Rm:mg "law"=some (.ref fa))(I:lD K c0 F Ms top Kt)(e0:PySem.W.nsIn K mainGlobals "LAST_SPOT"=some (some (Value.int 7 t0)))(e1:PySem.W.nsIn K mainGlobals "MOST_COINS"=some (some (Value.int 9 t1)))(e2:PySem.W.nsIn K mainGlobals "LAST_DIE"=some (some (Value.int 99 t2)))(e3:PySem.W.nsIn K mainGlobals "LAST_YEAR"=some (some (Value.int 9999 t3)))(e4:PySem.W.nsIn K mainGlobals "SIDES"=some (some (.ref DM)))(SI:K.lookup DM=some #[.type "tuple",none,.seq (List.toArray [Value.str "lower" wZ,Value.str "upper" wY]) DJ,DH])(e5:PySem.W.nsIn K mainGlobals "MOST_ANVILS"=some (some (Value.int 9 t5)))(e6:PySem.W.nsIn K mainGlobals "RULE_WORDS"=some (some (.ref DL)))(SH:K.lookup DL=some #[.type "tuple",none,.seq (List.toArray [Value.str "coin" wX,Value.str "lower" wW,Value.str "upper" wV]) DI,DG])(e7:PySem.W.nsIn K mainGlobals "YEAR_FIELD"=some (some (Value.int 4 t7)))(g0:PySem.W.nsIn K mainGlobals "DIE_FIELDS"=some (some (.ref za)))(Sk:K.lookup za=some #[.type "dict",none,.dict (List.toArray [#[nj,Value.str "lower" qG,Value.int 0 qE],#[nh,Value.str "upper" qD,Value.int 2 qz]]) Si,(List.toArray [])])(rK:nj=PyData.keyHash w.params "lower")(rJ:nh=PyData.keyHash w.params "upper")(Sg:(za==sysModules)=false)
  : ∃fd:FuncData,(∀(s:Shared) (v:Value),BindsTo s fd #[[v],[]] [("_law_script",v)])/\∀base:Heap,K.In base->base.Ns mainGlobals mg->gH l.prog w K mg base (gY l.prog w) 80 fa fd ["_law_script"] (qk exc K 1 (b7 T 40 11)):=by
 have A:nE w K mg c0 T:=by
  refine bG6 I tx X G (λx d hx=>?_) (λx kvs hx=>?_)
  ·have hm:=aO hx;simp only[c0,con,List.mem_cons,List.mem_nil_iff,or_false] at hm;rcases hm with z|z|z|z|z|z|z|z
   ·cases z;exact#[(.int 7),_,bZ X G e0,#[_,rfl],λ_ _=>.int _]
   ·cases z;exact#[(.int 9),_,bZ X G e1,#[_,rfl],λ_ _=>.int _]
   ·cases z;exact#[(.int 99),_,bZ X G e2,#[_,rfl],λ_ _=>.int _]
   ·cases z;exact#[(.int 9999),_,bZ X G e3,#[_,rfl],λ_ _=>.int _]
   ·cases z;exact#[.ref DM,_,bZ X G e4,rfl,λ_ _=>.tup (vs:=[.str "lower",.str "upper"]) (.inr #[_,_,_,SI,rfl,rfl,rfl,(by change 2<=sizeLine;decide),.cons #[_,rfl] (.cons #[_,rfl] (.nil))]) (.cons (.str _) (.cons (.str _) (.nil)))]
   ·cases z;exact#[(.int 9),_,bZ X G e5,#[_,rfl],λ_ _=>.int _]
   ·cases z;exact#[.ref DL,_,bZ X G e6,rfl,λ_ _=>.tup (vs:=[.str "coin",.str "lower",.str "upper"]) (.inr #[_,_,_,SH,rfl,rfl,rfl,(by change 3<=sizeLine;decide),.cons #[_,rfl] (.cons #[_,rfl] (.cons #[_,rfl] (.nil)))]) (.cons (.str _) (.cons (.str _) (.cons (.str _) (.nil))))]
   ·cases z;exact#[(.int 4),_,bZ X G e7,#[_,rfl],λ_ _=>.int _]
  ·have hm:=aO hx;simp only[c0,gd,List.mem_cons,List.mem_nil_iff,or_false] at hm;have z:=hm
   ·cases z;have er:uN [#[nj,Value.str "lower" qG,Value.int 0 qE],#[nh,Value.str "upper" qD,Value.int 2 qz]] [("lower",.int 0),("upper",.int 2)]:=.cons (v:=.int 0) #[_,rfl] (.cons (v:=.int 2) #[_,rfl] (.nil));exact#[za,_,bZ X G g0,#[_,_,Sk,#[#[_,_,rfl,rK],#[#[_,_,rfl,rJ],True.intro]],Sg,λx=>er.find x],.cons (λ_ _=>.int _) (.cons (λ_ _=>.int _) (.nil))]
 let#[f,fd,O,a,t]:=MN I tx _ (aJ (i:=63) rfl);cases Rm.symm.trans (bZ X G a);let#[oc,od,kV,doc,pm,an,fN,ct,mh,rfl,lk,lP]:=O.fn.ex;exact#[_,λs v=>.of_eq rfl,λbase mP wL=>Yz mP wL A 40 11 _ _ fa _ rfl O]
def walk{l:PySem.W.OpenLaw}{q:Program}{loose:List Str}{XP:(Str->Option Value)->Heap->Prop}{YP:World->Heap->Prop}{d:DefRec}{K:Params->PySem.W.Frag}(hn:l.most=some 63)(wo:d.params.defaults=[])(hY:∀(w:World) (h:Heap),YP w h->(K w.params).In h)(F:∀ (w:World) (mg:Str->Option Value) (fa:Addr) (h:Heap),(K w.params).In h->h.Ns mainGlobals mg->mg d.name=some (.ref fa) ->
   ∃ fd:FuncData,(∀ (s:Shared) (u:Value),BindsTo s fd #[[u],[]] [("_law_script",u)])/\∀ base:Heap,(K w.params).In base->base.Ns mainGlobals mg->gH l.prog w (K w.params) mg base (gY l.prog w) 80 fa fd ["_law_script"] (qk exc (K w.params) 1 (b7 T 40 11))) :
  PySem.W.WalkO q loose XP YP l.row.toRowW d [] (λf vs=>PySem.call f vs) :=
 L2.Ur (n:=63) (k:=80) (x:="_law_script") (CX:=λw=>gY l.prog w) (sp:=λw=>qk exc (K w.params) 1 (b7 T 40 11)) hn ∅ wo #[rfl,by decide,by decide] hY F (λw H a ns hl hO hS=>Zb hO hS (Va (k:=27) #[#[#[#[#[rfl,rfl],rfl,rfl,#[rfl,rfl],#[rfl,rfl],rfl,rfl,rfl,rfl,rfl,rfl,rfl,rfl,rfl,rfl,rfl,rfl,rfl,rfl,rfl,rfl],#[rfl,rfl,rfl,rfl,rfl,rfl,rfl,rfl,rfl,rfl,rfl,rfl,rfl],rfl,rfl,rfl,rfl,rfl,rfl,rfl,rfl,rfl,rfl,rfl,rfl,rfl],rfl,rfl,rfl,rfl,rfl,rfl,rfl],#[#[#[rfl,rfl],rfl,rfl,#[rfl,rfl],#[rfl,rfl],rfl,rfl,rfl,rfl,rfl,rfl,rfl,rfl,rfl,rfl,rfl,rfl,rfl,rfl,rfl,rfl],rfl,rfl,rfl],#[rfl,rfl],#[rfl,rfl],rfl,rfl,rfl,rfl,rfl])) (by rintro _ _ _ _ _ ⟨_,_,_,_,_,_,_,z⟩;exact z)
end Lk
end _X
open _X
open PySem PySem.W PyProof.Rows
set_option maxRecDepth 100000 in
set_option maxHeartbeats 0 in
theorem PySem.Challenge.cw_trussel_k58_whole_upper_dies_parted_holds : PySem.Challenge.rw_trussel_k58_whole_upper_dies_parted.Holds := by
 w_on;o_law;k_head;(case hw=>w_witness2)
 k_fill
 refine Lk.walk (l:=PySem.Challenge.rw_trussel_k58_whole_upper_dies_parted) rfl rfl (fun w h Y=>PySem.W.kIn_of Y) ?F
 case F =>
  intro w mg fa h KX G hmg
  refine' Lk.all_mk KX G hmg ⟨?zz1,?zz2,?zz3,?zz4,?zz5,?zz6,?zz7⟩ ?_ ?_ ?_ ?_ ?_ ?_ ?_ ?_ ?_ ?_ ?_ ?_ ?_ ?_ ?_
  (case zz1=>repeat' first | (with_reducible show _=_;k_is) | exact M.PF.nil | apply M.PF.cons)
  (case zz2=>repeat' first | (with_reducible show _=_;k_is) | exact M.PM.nil | apply M.PM.cons)
  (case zz3=>repeat' first | (with_reducible show _=_;k_is) | exact M.PC.nil | apply M.PC.cons)
  (case zz4=>repeat' first | (with_reducible show _=_;k_is) | exact M.PA.nil | apply M.PA.cons)
  (case zz5=>repeat' first | (with_reducible show _=_;k_is) | exact M.PB.nil | apply M.PB.cons)
  (case zz6=>repeat' first | (with_reducible show _=_;first | (with_reducible show PySem.W.excIn _ _ _ _=true;k_exc) | k_is) | exact M.PX.nil | apply M.PX.cons)
  (case zz7=>kernel_rfl)
  all_goals try (with_reducible show _=_;k_is)
  all_goals try ((with_reducible show _=_);rfl)
#print axioms PySem.Challenge.cw_trussel_k58_whole_upper_dies_parted_holds
