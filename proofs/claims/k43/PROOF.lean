import PyProof.Rows.All
import Wide.All
import OpenK.AllK
import Wide.FinOn
import Lean
import PyProof.EqAt
import PyProof.EqKinds
import PyProof.TupleCall
import PySem.Challenge.RW_trussel_k43_dies_made_one_and_two
set_option Elab.async false
set_option linter.all false
set_option maxRecDepth 100000
set_option maxHeartbeats 4000000
set_option genInjectivity false
set_option bootstrap.genMatcherCode false
set_option genSizeOf false
local macro_rules|`(def $i:declId $s:optDeclSig $v:declVal)=>`(noncomputable def $i:declId $s:optDeclSig $v:declVal)
structure PySem.W.Fast:Prop where(tw10646098826345408304 tw9049780245661785078 tw3211252351380257861 tw8167868046174861197 tw6504375833774096799 tw15430612364729021934 tw1830928754914657441 tw17486299772689252044 tw6576944190989199689 tw4928058899527703715 tw14093522060725381600 tw3206178470746190187 tw3740185521196056822 tw7315884370397462858 tw1531322511310138894 tw13047865216996833243 tw15813535628097485152 tw14245482423277799799 tw16118641217397459556 tw1513068352347888416 tw14717556593123529599 tw15933297253580841802 tw12799447121120078161 tw2369496748948192404 tw2696263159577272787 tw13415801726596963101 tw5483206923311293641 tw11009322334245306801 tw16677398906964327659 tw7733508895815010526 tw10387278071674720187 tw5029966977923529076 tw9564770067655971906 tw6134680789848965522 tw985699103271231572 tw9402561860243343369 tw5716608682453072114 tw16281168541992092063 tw7989806653805023782 tw15417545988575630310 tw7532889619244840707 tw16706275098955056704 tw13893011395530166066 tw13916419532490387610 tw1526920698221076288 tw3783822476605589401 tw2308851959494792777 tw4141647837092522598 tw3530006202854259792 tw13272224586849803135 tw2703688467326671007 tw12320146952104056533 tw13842523777376961549 tw2798190634906110133 tw4743528342085776234 tw11328055576483158871 tw7169575373142758013 tw80133381327068110 tw3588263298033685554 tw2638571047509018007 tw14760694718488146439 tw9969610626439229504 tw3527518602545682944 tw10425618872426642911 tw9990748529756105287 tw11091302101501801163 tw3427952715106608839 tw503003302409426726 tw17546825696716962776 tw13761106822053370131 tw15186046675140174662 tw16583736816617621052 tw3027986575779954060 tw13201483290623489735 tw4459133178932108042 tw6296404195619241592 tw7814491087875093295 tw6849367173458288355 tw781157267868362399 tw15207691519116124837 tw17151168397330591301 tw3382594670124900536 tw18072071170590001297 tw17626605302650572414 tw8335858400675297073 tw14244693844998076855 tw5821717482249643696 tw12159277487719463285 tw17274715716197783702 tw5970091035108708473 tw3602944584443526073 tw12402828621068004097 tw9248248375193642320 tw11556530716967411501 tw2589311568895128041 tw7720347744503473224 tw1737747068130689814 tw18029899802185955009 tw10142107869055955270 tw578445076160033685 tw18199105450174127475 tw18191378354960179995 tw79783826971312980 tw2339838008343402233 tw5693378792458387940 tw10215903235729761037 tw3600294842391431917 tw11873141403492470573 tw10896667068877173867 tw9075951412297252488 tw7115623854082711725 tw4319968255331869317 tw5668131855030935190 tw1067648327315789081 tw5904868680672707328 tw14785360579959216060 tw16163154229598044846 tw11416529786147150462 tw14513633954863347337 tw11308347723155545328 tw4598050611656683499 tw1910861813743963284 tw245190781672025359 tw2991458635979203642 tw11181995462370909872 tw16168670095299392586 tw9372806914245633106 tw6726179021790571080 tw10139380594112485158 tw5340245374227416233 tw16675594065985272064 tw13814001940167253473 tw17335245668939978794 tw13298288139485697433 tw3098775729999618346 tw18238362172687959571 tw4391340166454706100 tw13474759134097244789 tw8686673477927759583 tw15480148688427147103 tw13133136415727749754 tw5476997658839127801 tw2686493338589615645 tw16604260768106799234 tw4142305947830194752 tw13198506743018864180 tw5504531354312800187 tw2431474939197748979 tw7307061276828914688 tw12317028877602994741 tw4134704271017257739 tw6625424460158383849 tw1870816412654929739 tw9144012469611187778 tw9255028487810283094 tw10460819158416963265 tw12050760870468040249 tw12747229120252184757 tw14933008894340208182 tw16530775939685181681 tw15231958940368243476 tw846279554194256952 tw2953137531511550408 tw10344761004460862032 tw9178714883512076565 tw15257724219835956325 tw14293456456901514418 tw16310133267926964495 tw16452089720385545415 tw8847695238503423390 tw16890026604648124229 tw7828843694329662794 tw2778476281400628148 tw1029420866997360026 tw1155045586800056787 tw247121661275953513 tw15312220732675200128 tw14253783431730957304 tw10355759206489240853 tw1037598521592144884 tw6307382335759527060 tw2130735726713939307 tw8404886741072558714 tw4207300065255318185 tw16740020674167213398 tw10163406987073324192 tw9811217120805115611 tw7204243440354010517 tw17361055304808419567 tw5298159742918506095 tw15623825772785939502 tw11197528500435148440 tw15274027409054535958 tw10106118648308331585 tw9965875816633974580 tw11729743546864976846 tw9087165435361738968 tw12178295454707081275 tw10783745940462060963 tw18177644806621019066 tw13652844087862912630 tw16184009899924559273 tw11181649837348042728 tw773945124111003444 tw15172269829240048227 tw7495774900018279820 tw17422765437425347640 tw12352112714798080655 tw2434073002086406793 tw7768223801142861732 tw1253066590720245043 tw11721624174148472055 tw9072182479462895006 tw18045324668954013971 tw11543281750767776648 tw2514161282259945014 tw6117385115310707583 tw16203504605024071578 tw11704235110993485550 tw5382321446897811070 tw16348777022251412704 tw9980657860194692437 tw5380744826214018190 tw12110221529143505062 tw6968092258020734081 tw14213218876828546714 tw17856621718588502376 tw10749944569837001768 tw1544548096699643525 tw5053448351174659975 tw17226827410259411623 tw16376685534411252070 tw13395630215375410077 tw12370482295714735586 tw18059122110486784844 tw16340308897108408508 tw13860812972971948916 tw2040593904096327839 tw15253327962658831997 tw7520015261467223693 tw17641949102694138292 tw3717922711059243271 tw10381132045165978613 tw13578146454316920024 tw7682250377511035916 tw2068274018200929318 tw7333608956682182440 tw17687942144359086707 tw7819590691239977647 tw2465557238810798746 tw12189812818711164732 tw16751502944124227407 tw4322959299749730540 tw11341818959762602769 tw15341441088803824956 tw14937254355560927351 tw17284975338657707329 tw9084588038139429754 tw3271628988216606734 tw6784334518335136223 tw7971064430349245878 tw16383752363051277131 tw1581284770910871278 tw12537879638202218326 tw11285793161184070023 tw18350518030325435076 tw10547633289360620213 tw720383465228132095 tw11283256216246112242 tw902350158776466988 tw17426876052725151568 tw5118870991331523936 tw15426862550223748893 tw12143649755566025766 tw4238453632297959417 tw16643897421983184334 tw1586672115420042867 tw3314491126750279527 tw14732827465767712162 tw2967519933465819334 tw15186161636165734926 tw14466446201301717296 tw4105579686920404280 tw14505675372834218731 tw12151702248568682701 tw1954802995230463583 tw6447267219687380531 tw5906239278012561224 tw17298347669684110178 tw17107013779449441351 tw5452699315129950250 tw14786475034108934833 tw14077496290005242162 tw17484233793935203490 tw7957267072240153530 tw1125903557707302438 tw13216250558435336681 tw7745643700891897386 tw13583974341220911859 tw814491883261555629 tw10016510556759427092 tw17984765853641132859 tw4876972507426269661 tw12374168064643670462 tw8068405210823718911 tw7995488261141290978 tw4799757460950091330 tw8923518041967818826 tw15191293091678221724 tw573220190388304345 tw6454711495591705993 tw11959225418315693022 tw3825314958209803646 tw8002389088928566333 tw3146120188960991655 tw5945992937405771957 tw10864459500087150937 tw9950896114212405087 tw8610566109719607563 tw12765467240124465140 tw1198715116043518353 tw15824270899570248257 tw13562904216138051562 tw16985078982567687108 tw10403484980496399928 tw8686767622334573330 tw14344575638643545716 tw7972696000283826561 tw2743585674358157534 tw6905683002999116179 tw18436659468276388666 tw6298122546188385764 tw1770619664663341254 tw3208343829112773358 tw6419406025187265511 tw16375044382618691553 tw14720260005078711446 tw9069300868231185969 tw16600367430109860831 tw2587664512924696735 tw10618481963292986460 tw18038722011181490452 tw16864706459061734930 tw10495034564040407112 tw12220137100874025454 tw13726524681487718421 tw6399521856537577440 tw8845275269792361019 tw6956648862845822722 tw18234827062031172969 tw12528400685212291551 tw1889536723187592623 tw15499829707509036225 tw7025107954500091839 tw18208206228918326582 tw14394930638858113605 tw10918833109974586071 tw12793798552848734281 tw1449754252122184826 tw9865888180856689473 tw6240060729858865353 tw6186463655892101773 tw18383873362857735325 tw6134019114015588110 tw14851632341135383054 tw8769609161489528768 tw1605838597400350736 tw1362029447887264621 tw12773296761823881504 tw4786823724976115668 tw11719192513506581656 tw11189208037777052559 tw17720336896288284088 tw9876855774984584617 tw3229505723018190241 tw7394050718024501796 tw10261426254293511000 tw7360487493203421657 tw14906606652717948884 tw8477243992742466616 tw9118089276679615066 tw7176743272374239720 tw207343903114701638 tw5324470593775325966 tw3082647976987283366 tw15148221722508906292 tw7042526868208519503 tw10226452995500178036 tw171466102594422252 tw12004089364147632763 tw646791863339116629 tw13857505985528636554 tw1238356896982116275 tw6314584958072877624 tw9545294746655220770 tw15643583723073106874 tw4729395237651719435 tw9826376669351537880 tw12575153205495540177 tw11564049659567623102 tw13966542326309104393 tw8338478433237232966 tw3484976653234473757 tw8874429446937157481 tw604895575727574940 tw11337243992758256841 tw13745615895516813919 tw11045993433555938726 tw920733323624677021 tw1246794131592532654 tw17821825564102717551 tw10529348680039977988 tw18268668789414394742 tw2544584784220680558 tw3039920519572816661 tw9878121090291923516 tw16064244868422840792 tw3009098881634918000 tw9905863292521665689 tw16455168776638656176 tw6355032844547342123 tw5041606545078643006 tw1669945157482489060 tw7647364480081536520 tw15023692417400542163 tw2755590585942104245 tw7420332256925890583 tw2595941275919247508 tw13081375310793937800 tw9082336354777576172 tw13078342301710694713 tw7197349860191794495 tw553559949715650716 tw15888082568262495694 tw4647482508499633506 tw14480150998261586883 tw10385628189376351532 tw15025851917601283525 tw15341675690074360050 tw17261005418382863380 tw8836916636207979753 tw1037317752987335024 tw2261399186951855153 tw9398087952941141721 tw7650932883470248531 tw7046643409423977585 tw6352514431017779626 tw12650226622928104988 tw16237801358470823671 tw4696391106058602720 tw5368945038985082300 tw2325104786753660103 tw16727665275346461995 tw17808359913782798167 tw2203706191110832052 tw16611640838193886692 tw9863300638142566341 tw1331099260272770646 tw4556874724592360549 tw4436698531690558983 tw5682815409605993294 tw16564600351443533936 tw9828915531014511157 tw6761579045459368949 tw5703709899434116783 tw13221457281988676623 tw3411245262868031249 tw1045604202158244740 tw4074979457152105522 tw14264949455744346844 tw13727495279327334743 tw16778149807391006586 tw12316903408661933223 tw10658820967199561257 tw10065250317208739805 tw7927838582685966808 tw4044818675266951387 tw9571733459377878411 tw410071385182275233 tw829025091539037033 tw7308475131068413063 tw18317280229607227117 tw12763425448688649987 tw8498811169308353626 tw690360541124968432 tw13887309787365437852 tw11397034493272155803 tw626257371150955037 tw4477074066415593226 tw9895612461181594502 tw16226381567257361686 tw3164444655641886256 tw2941450098350887873 tw5829650476596162865 tw9121335852215090941 tw2385338401654028676 tw873656610715274354 tw11108441347848850991 tw5868485052964921713 tw2870381468323023666 tw3003281935372010153 tw4492231948197165300 tw14812472916507052745 tw10189000587471326102 tw10624808727139392339 tw3821520486038161297 tw1603354936381057446 tw10373558639604117575 tw3739800917802600577 tw27132290727071923 tw9430267266464710191 tw1499556072485320197 tw6497245734187763731 tw7628224081673744377 tw15894175312030933428 tw13361344213800071383 tw9056262313144513663 tw12237626330915059722 tw14865847510915347315 tw11112382678827122961 tw17927876410889148292 tw4506370106678892127 tw12924767250049988095 tw6806996580574147028 tw6423768255785621532 tw14789907277847826184 tw18444948954484565117 tw9521517739013035399 tw1863089870359097493 tw8516127286737677963 tw2989252890527177319 tw15665724444921003189 tw790004313047970475 tw3725735175005938798 tw6854990191770057389 tw3899657803301409740 tw9663255521013183513 tw958520413633454606 tw14360726525734182005 tw14163297224206391230 tw11969673789287954963 tw11049389707202095926 tw387107950505837548 tw7035049532020087040 tw1628667965915126902 tw7673517288321015913 tw7136952803710542153 tw17614426451599430155 tw16446814504537843640 tw18361853921078676622 tw10488560659131158970 tw2654257705750102676 tw12450896513747406895 tw6209419442782523510 tw8121851203426370992 tw7971208008035642445 tw14012335099253052964 tw14797190773664700282 tw7118305153965840009 tw4546195457530904131 tw4502088496267535765 tw6371867217672906947 tw16900187729443630487 tw15645667585687815012 tw7405967414215043221 tw3198188684704494893 tw14930686750609890807 tw12067181966328772493 tw7402546848313752529 tw10349442469355794138 tw11213685396200101745 tw16392244399685576072 tw12172431892058666539 tw16732783462632088742 tw187378762525513148 tw1661182816247457225 tw18420746789570266954 tw17137136797092931411 tw5709252073407994650 tw8842066560688609221 tw15170504267229082733 tw6510671695897226208 tw8739244447567941456 tw18384329407102673245 tw6814283239065059249 tw660247226814777558 tw4351407913402860784 tw7454188337475546332 tw4311745399174336633 tw10374443354728261577 tw11960949306430428097 tw495840499313506093 tw3776007019473736605 tw9786265904230027724 tw4595240618776561221 tw14286649346958042223 tw12380111050736984281 tw6101357551551379879 tw7517393973143396195 tw8506994804177413970 tw196808456459027605 tw7515914258531832107 tw7248488589874289922 tw4953698523035741513 tw14509501408952546171 tw14907389704347437727 tw16079648961622681151 tw13410089459910796990 tw16341052575314920940 tw3793185098456237502 tw3117612593291897142 tw2664319568847090059 tw6150049388609108526 tw9556477406404296359 tw17257667238975696506 tw5072825450183959805 tw10998460884500992132 tw14089760875047901896 tw4502144043113802497 tw2603254655524166022 tw6020586178188367471 tw5825587216044661664 tw14119305729988065956 tw13668793242423713978 tw10266423378526498551 tw1991138828391345143 tw5327964903204518427 tw9434296135911400009 tw2006899805178315551 tw4052497485392997135 tw15832204022144535327 tw17871380438420258699 tw10347115465200232561 tw4221689306442076921 tw17510127066202190768 tw15518910687110869837 tw16268456048091477009 tw13548759926107414191 tw11652272085208148667 tw12402590892627264592 tw475241804568262584 tw13549564081302382872 tw4707896201214108847 tw17612072018524649162 tw9087347892332939662 tw6005048021891272713 tw17671673711127846735 tw7067103749758198024 tw12894393221257534819 tw9123956507849648016 tw16208127631921945282 tw16088462378497606232 tw17062472892008407582 tw14358699820668535361 tw12008954936216435395 tw8439603399570465310 tw10101456810892144347 tw16651953131692055221 tw2674991570900531750 tw770880742555457871 tw10731483693748765347 tw11534646875940784758 tw9736907642950311919 tw16212862012462905828 tw14768766076119911856 tw10283919685165422852 tw5094449586517856342 tw5961482560194369117 tw11802961267612811025 tw4146784965104165615 tw4150470672925373335 tw10159398592991979576 tw11159283090908483130 tw705039728856150233 tw11031865181086884162 tw16558065411077475057 tw15559880033850211437 tw11020327433385713584 tw5739030556396268461 tw16806467757956663585 tw16587587015505326750 tw3606169595986491781 tw694628761057550736 tw10825141715098208958 tw7902706131894849835 tw3151176630498015276 tw7042921670910097381 tw16790998541594341161 tw14458943372858985299 tw9094007173271229238 tw4923474207983349688 tw16018883061262284002 tw2708029018238764113 tw9488764926654938376 tw10525813276984089759 tw972970913140698729 tw14835350142420062607 tw14233191863284114220 tw14491464126914679753 tw15726642019193083511 tw6630156884524733720 tw1722201786396939042 tw16296768399837460085 tw4523838341445122789 tw4747305869458036176 tw3708132118623212599 tw8239644452259625522 tw8067394871610622293 tw8707011778122427648 tw11805899037265321525 tw8114537610176471819 tw7000835709916404799 tw10815067365909086926 tw12341919090627358931 tw2192813002212769942 tw10025038920316172131 tw124280210611566660 tw15695199146869919558 tw2389371881637158504 tw8675751223030928201 tw14658838427203379449 tw12282364736735684711 tw4713290979460688642 tw4134825674978913468 tw7558139864450893738 tw5976338735356415283 tw805911052837828846 tw14759014132567249209 tw14295052419748226259 tw3056661354443490506 tw2985456407930627654 tw13305577532249885793 tw7305739677200266643 tw17391519210294211194 tw947381152979152828 tw10107096448796317730 tw11571924801387675786 tw6248009581312300877 tw11072430924947347285 tw1796435375182228354 tw6028516147814947584 tw13745605448299562786 tw10518499860238931333 tw12893569853782292034 tw1336719893962547308 tw17666148760597704752 tw9120074049368876932 tw1920779331983899193 tw16374428979058301513 tw3225198482662432430 tw16003453615671878704 tw7598579839343488144 tw283084576542281641 tw13565372314118614344 tw7387010578638009037 tw17244500579176646758 tw16605128936365234116 tw17597671927559181051 tw3299857461733868233 tw5405074488873164784 tw5950554586568806904 tw16177467873869184922 tw15770237401488595322 tw7011956540759975380 tw9739941580376900444 tw13203368926758721897 tw11161245596166326688 tw10654941602290004117 tw14197376001404738374 tw12363641325606582473 tw10935811020693380727 tw5673514482184589342 tw8019536333883578507 tw10442000659410004153 tw15895829035008155573 tw10307318724350455216 tw4340578060962784065 tw10458993076083768261 tw6255926990598259055 tw5245932439666566947 tw14760957895458648235 tw3188075437139271999 tw8271219883736415803 tw14129013796156836379 tw12001491338440216906 tw14783615840506752470 tw808152174981203394 tw8889633011978756262 tw12949510458777514031 tw12194004509908733208 tw6199709874966769460 tw1250331251880137343 tw2605534978630980576 tw12004206884936595565 tw4791347096065188259 tw302905518257108250 tw5720228523297431917 tw15147311714469664292 tw1070649847172363314 tw17608083613645407006 tw1612626274781131252 tw11178979168635898709 tw15457914992709173045 tw14791798276951975951 tw10083961077903477003 tw9659914046548924397 tw6377313332078351285 tw8267265456842236460 tw3185738366365363215 tw14375861948715790871 tw8402331632063832883 tw16043997628100036763 tw14412160228594537192 tw1673062469929204964 tw16826828511459739603 tw14580009319731701851 tw6738860230582228136 tw12618927106911995304 tw1694359111919558852 tw4256226335099254163 tw15316692972022041141 tw15679757929970891680 tw8863538464790034130 tw2207729839426869871 tw7838198505842624056 tw10901760978106811905 tw15700012755596413412 tw13045409108882840217 tw3974416610171969926 tw7420086696920522209 tw12368068191557118907 tw16328544551326630537 tw11535410694484861015 tw14420084537073348836 tw3455974774863516643 tw11190365676062777835 tw9415665881632634315 tw15180118551466703647 tw15073550449825482648 tw4409158962706212214 tw7359297689707985546 tw14740827368701898855 tw17080785488896870787 tw13545136096684527430 tw844957272240978972 tw15228785788549339266 tw2983264997345287063 tw10442305139450336365 tw6828388366019456430 tw12762840462260481404 tw4486823257202240662 tw8201499113777358778 tw17673990781768222067 tw6558646080470453018 tw7992625301917758352 tw5995247922305779374 tw14668550667383341931 tw5490002873960084328 tw11782465330930803735 tw12018481942644404226 tw17770611834555133003 tw10510735941535136715 tw8454824801908080780 tw9666866234947655767 tw15992618482632873219 tw17783565565176323409 tw14757823174576612216 tw1151227720402410898 tw7773103787202142076 tw15748599728080303360 tw13356037248893383924 tw7690880471217212292 tw12893651756831368087 tw3268851980909120585:True)
namespace _X
local macro_rules|`(tactic|omega)=>`(tactic|lia)
def Ae:=@PySem.wpAny_binaryOp_repeat_ref
def Af:=@PySem.W.hideAll_get
def Ag:=@List.mergeSort_perm
def Ah:=@List.map_eq_nil_iff
def Ai:=@List.getElem?_range
def F':=@PySem.W.of_hideAll
def FZ:=@PySem.wpAny_newList
def Ga:=@PySem.W.kitx_tuple
def Gb:=@Array.append_assoc
def Xf:=@PySem.putSet_of
def Xg:=@PySem.list_append
def Xh:=@PySem.W.kitx_list
def Xi:=@PySem.W.kitx_dict
def Xj:=@Nat.le_succ_of_le
def Xk:=@List.length_range
def Xl:=@List.foldl_append
def Xm:=@Array.toList_push
def Yd:=@PySem.wpAny_Call_method_late
def Ye:=@PySem.seqIndex_neg
def Yf:=@PySem.concat_meets
def Yg:=@PySem.seqSlot_of
def Yh:=@PySem.IsL.update
def Yi:=@List.perm_middle
def Yj:=@List.nodup_range
def Yk:=@List.isEmpty_iff
def Yl:=@List.ext_getElem
def aA:=@List.getElem?_map
def aB:=@if_neg
def aC:=@List.getElem?_eq_getElem
def aE:=@List.getElem?_append_left
def aF:=@List.mem_map
def aG:=@Option.some.inj
def aH:=@PySem.mem_of_lookup
def aI:=@Nat.ne_of_lt
def aJ:=@if_pos
def aK:=@List.getElem?_set_ne
def aL:=@Nat.le_trans
def aQ:=@decide_eq_true
def aS:=@of_decide_eq_true
def aT:=@PySem.Heap.get?_update_self
def aU:=@List.getElem?_set_self
def aW:=@List.map_cons
def aY:=@Bool.and_eq_true
def aZ:=@Nat.lt_irrefl
def aa:=@PySem.wpAny_bind
def ae:=@Option.map_eq_some_iff
def ag:=@Option.bind_eq_some_iff
def ah:=@PySem.wpAny_pure
def ai:=@PySem.Heap.get?_push_of_some
def aj:=@Nat.le_refl
def ao:=@PySem.Heap.lt_size
def aq:=@Nat.lt_of_lt_of_le
def au:=@PySem.Heap.get?_push_size
def av:=@List.length_map
def aw:=@decide_eq_false
def ax:=@List.size_toArray
def ay:=@List.mem_cons
def az:=@List.getElem?_eq_some_iff
def bA:=@PySem.wpAny_holding
def bE:=@PyProof.Rows.slot_tuple_getitem
def bG:=@PySem.wpAny_newObj_type
def bH:=@List.mem_cons_of_mem
def bJ:=@PySem.W.mg_of
def bK:=@PySem.W.kia_one
def bL:=@Bool.eq_iff_iff
def bO:=@List.replicate_succ
def bP:=@List.map_congr_left
def bS:=@PySem.wpAny_call_entry
def bT:=@PySem.Heap.get?_update_other
def bU:=@Nat.ne_of_gt
def bV:=@List.mem_filter
def bW:=@PySem.Heap.SameBut.update
def bY:=@Nat.zero_le
def bZ:=@List.all_eq_true
def ba:=@Ne.symm
def bc:=@List.mem_of_getElem?
def bf:=@List.mem_append_right
def bg:=@PySem.wpAny_mono
def bh:=@PySem.Obj.data_mapFields
def bj:=@List.map_map
def bq:=@List.eq_nil_of_length_eq_zero
def bt:=@List.length_append
def bu:=@Bool.false_ne_true
def bx:=@PyProof.Rows.callWith_type1
def cB:=@PySem.Around.under_plainId
def cE:=@List.length_cons
def cH:=@List.pairwise_cons
def cI:=@List.getElem?_append_right
def cK:=@List.getElem?_eq_none_iff
def cL:=@PySem.call_meets
def cM:=@Nat.le_of_lt
def cN:=@List.flatten_cons
def cO:=@Int.toNat_natCast
def cQ:=@PySem.Obj.isFreed_of_fields
def cS:=@PySem.codeAny_builtin
def cT:=@beq_eq_false_iff_ne
def cU:=@Array.length_toList
def cV:=@PySem.wpAny_typeOf
def cW:=@List.take_length
def cX:=@List.length_take
def cY:=@List.getElem?_replicate
def cc:=@List.map_append
def cj:=@PySem.wpAny_truthy_bool
def cq:=@PySem.wpAny_setState_of
def cu:=@decide_eq_true_iff
def cv:=@List.lookup_cons
def cx:=@Nat.lt_trans
def cz:=@PySem.wpAny_Call_Name_kw
def dB:=@PySem.builtinLookup_eq_fast
def dC:=@Nat.lt_succ_self
def dD:=@List.getElem_mem
def dF:=@PyProof.Rows.F.plain_set_update_loop
def dG:=@List.filterMap_cons
def dJ:=@PySem.wpAny_of_eq
def dM:=@congrArg
def dN:=@Option.isSome_iff_exists
def dO:=@PySem.Heap.size_push
def dQ:=@List.nodup_cons
def dR:=@Bool.or_eq_true
def dX:=@PySem.F.plainAttrs_list
def dc:=@PySem.W.cellsFrom_some
def dh:=@PySem.wpAny_setField
def dj:=@Array.getElem_eq_getD
def dq:=@PySem.wpAny_passesOwn
def dr:=@List.take_succ
def dt:=@List.mem_range
def du:=@List.mem_iff_getElem
def dw:=@List.mem_append_left
def dz:=@PySem.wpAny_standAt
def eB:=@PyProof.Rows.boot_list
def eE:=@List.pairwise_map
def eF:=@List.append_assoc
def eI:=@PySem.wpAny_rule
def eL:=@PySem.wpAny_callSpecial?_slot
def eM:=@List.getElem?_eq_none
def eN:=@Array.getElem?_toList
def eQ:=@PySem.isSubtype_type
def eR:=@PySem.Calls.callWith_builtin
def eX:=@List.mem_append
def eY:=@List.append_nil
def fA:=@PySem.plainId_quiet
def fC:=@beq_iff_eq
def fE:=@List.mem_singleton
def fF:=@List.mem_cons_self
def fG:=@List.filter_append
def fH:=@Int.emod_lt_of_pos
def fI:=@PySem.Calls.evalArgs_plain
def fM:=@PySem.typeLookup_type
def fN:=@List.drop_eq_getElem_cons
def fO:=@Array.getElem?_eq_getElem
def fS:=@Nat.le_succ
def fT:=@List.reverse_cons
def fU:=@List.nodup_append
def fV:=@PySem.codeAny_mono
def fW:=@PySem.F.args_tuple_add_2
def fY:=@PyProof.Rows.boot_sorted
def fh:=@PySem.wpAny_isInstance
def fj:=@PySem.intKind_is
def gE:=@PySem.F.slot_tuple_add
def gF:=@List.filter_eq_nil_iff
def gG:=@PySem.Calls.call_function_entry
def gL:=@PySem.wpAny_pyIter_list
def gM:=@List.find?_cons
def gN:=@Int.emod_nonneg
def gO:=@PySem.F.plain_list_iadd
def gR:=@PySem.wpAny_comprehension_free
def gS:=@Nat.eq_of_beq_eq_true
def gT:=@List.length_singleton
def gU:=@List.length_replicate
def gW:=@List.length_filter_le
def gi:=@PyProof.Rows.size_push'
def gp:=@PySem.tupleKind_room_in1
def gq:=@PySem.F.entry_tuple_add
def gw:=@List.length_drop
def gx:=@List.any_eq_true
def iF:=@PySem.W.plainGet_of
def iG:=@PySem.W.callWith_K0
def iH:=@PyProof.Rows.F.entry_set_update_loop
def iT:=@PySem.wpAny_updateSeq
def iU:=@PySem.wpAny_execs_nil
def iV:=@List.any_cons
def iW:=@List.all_cons
def iX:=@PySem.F.slot_int_rmul
def iZ:=@PySem.W.callWith_K
def ig:=@PySem.noFill_tuple_add
def jA:=@List.set_set
def jH:=@List.eraseIdx_eq_take_drop_succ
def jI:=@List.eraseIdxIfInBounds_toArray
def jW:=@Nat.le_of_not_lt
def ja:=@Nat.not_lt
def jb:=@Nat.lt_of_le_of_lt
def jc:=@List.mem_filterMap
def js:=@List.findIdx?_eq_some_iff_getElem
def jv:=@PySem.wpAny_field
def jw:=@PySem.sizeLine_eq
def jx:=@Option.isSome_map
def jy:=@Nat.lt_trichotomy
def jz:=@Nat.lt_succ_of_lt
def kF:=@PySem.typeIs_int
def kG:=@List.of_mem_zip
def kH:=@PySem.F.args_tuple_add_2
def ko:=@PySem.seq_tuple_add
def kq:=@Sum.inl.inj
def kr:=@PySem.Paired.length
def lU:=@PySem.Value.isInt_shape
def lV:=@Option.ne_none_iff_exists'
def lW:=@PySem.Obj.cls_mapFields
def lX:=@List.length_eraseIdx_of_lt
def lY:=@List.Perm.refl
def lZ:=@PySem.F.entry_tuple_add
def mO:=@Classical.byContradiction
def mf:=@Bool.false_and
def nF:=@PySem.wpAny_askSetting
def nG:=@PySem.F.slot_tuple_mul
def nH:=@PySem.F.slot_tuple_add
def oW:=@decide_eq_false_iff_not
def oX:=@List.pairwise_mergeSort
def qa:=@PySem.codeAny_of_tree
def qb:=@Nat.mul_comm
def qd:=@List.pairwise_lt_range
def qe:=@List.map_nil
def qg:=@Int.zero_add
def qh:=@Bool.not_not
def qi:=@Array.getElem?_eq_none
def tD:=@PyProof.Rows.assignInOrder_cons
def tE:=@PySem.W.methodCall_KW
def tF:=@PySem.F.type_list_pop
def tG:=@PySem.F.slot_list_pop
def tH:=@PyProof.Rows.boot_set
def tI:=@PyProof.Rows.boot_int
def tJ:=@List.take_append_drop
def vo:=@PySem.wpAny_runValue
def vp:=@List.pairwise_append
def vq:=@List.map_id
def vt:=@List.getElem_toArray
def vw:=@List.Pairwise.filter
def vx:=@PySem.Calls.Name_function_global
namespace L2
open PySem PySem.Spec PyProof.Rows
variable{xs vs:List V}{us:List Value}{H H':Hp}{a b f C dx:Addr}{o:HO}{u:Value}{P:Program}{w:World}{h h' base:Heap}{α:Type}{x m:Str}{e c tg:Expr}{X:Cx}{pins:List (Addr×Obj)}{Z:St}{s:Shared}{t' i j k:Nat}{ch fp:List Addr}{N ps:List Str}{M:Model}{A:Around}{E Q:Value->Shared->Prop}{v:V}{t:TA}{ta tb te:TE}{pos pos' p:Pos}{K:PySem.W.Frag}{es:List Expr}{op:CmpOp}{body:List Stmt}{r:R2}{fd:FuncData}{CX:lF}{sp:Sp}
noncomputable abbrev Key:=Sum Int Str
def T1:Key->Value->Bool
 |.inl k,v=>Value.isInt k v
 |.inr x,v=>Value.isStrOf x v
def NK(w:World):Key->Int
 |.inl k=>hashInt k
 |.inr x=>hashStr w x
theorem m9:∀{k:Key} {v:Value},T1 k v=true->(∃i t,k=Sum.inl i/\v=Value.int i t)\/(∃x t,k=Sum.inr x/\v=Value.str x t)
 |.inl i,v,h=>by
  obtain⟨t,e⟩:=lU (k:=i) (v:=v) h;exact .inl ⟨i,t,rfl,e⟩
 |.inr x,v,h=>by
  obtain⟨t,e⟩:=Value.isStrOf_shape (x:=x) (v:=v) h;exact .inr ⟨x,t,rfl,e⟩
theorem Sv(i:Int)(t:Tok):T1 (.inl i) (.int i t)=true:=by simp[T1,Value.isInt]
theorem Sw(x:Str)(t:Tok):T1 (.inr x) (.str x t)=true:=by simp[T1,Value.isStrOf]
theorem IL(a b:Int):decide ((Sum.inl a:Key)=Sum.inl b)=(a==b):=by
 by_cases e:a=b
 ·subst e;simp
 ·have h:¬(Sum.inl a:Key)=Sum.inl b:=λq=>e (kq q);rw[aw h];exact(cT.mpr e).symm
theorem IQ(a b:Str):decide ((Sum.inr a:Key)=Sum.inr b)=decide (a=b):=by
 by_cases e:a=b
 ·subst e;simp
 ·have h:¬(Sum.inr a:Key)=Sum.inr b:=λq=>e (Sum.inr.inj q);rw[aw h,aw e]
theorem IM(a:Int)(b:Str):decide ((Sum.inl a:Key)=Sum.inr b)=false:=aw (λq=>nomatch q)
theorem IP(a:Str)(b:Int):decide ((Sum.inr a:Key)=Sum.inl b)=false:=aw (λq=>nomatch q)
def l9(prog:Program)(w:World):PySem.KeyKind prog w Key where
 is:=T1
 hash:=NK w
 inj:=λv a b ha hb=>by
  rcases m9 ha with⟨i,t,rfl,rfl⟩|⟨x,t,rfl,rfl⟩
  ·rcases m9 hb with⟨j,u,rfl,e⟩|⟨y,u,rfl,e⟩
   ·injection e with e1 _;rw[e1]
   ·exact nomatch e
  ·rcases m9 hb with⟨j,u,rfl,e⟩|⟨y,u,rfl,e⟩
   ·exact nomatch e
   ·injection e with e1 _;rw[e1]
 byValue:=λk v h=>by
  rcases m9 h with⟨i,t,rfl,rfl⟩|⟨x,t,rfl,rfl⟩<;>rfl
 pyHash:=λhv h=>by
  rcases m9 hv with⟨i,t,rfl,rfl⟩|⟨x,t,rfl,rfl⟩
  ·exact wpAny_pyHash_int h
  ·exact wpAny_pyHash_str h
 eqBool:=λhu hv h=>by
  rcases m9 hu with⟨i,t,rfl,rfl⟩|⟨x,t,rfl,rfl⟩
  ·rcases m9 hv with⟨j,u,rfl,rfl⟩|⟨y,u,rfl,rfl⟩
   ·rw[IL] at h;exact wpAny_eqBool_int h
   ·rw[IM] at h;exact SeqAt.EqAt.int_str i t y u _ _ _ _ h
  ·rcases m9 hv with⟨j,u,rfl,rfl⟩|⟨y,u,rfl,rfl⟩
   ·rw[IP] at h;exact SeqAt.EqAt.str_int x t j u _ _ _ _ h
   ·rw[IQ] at h;exact wpAny_eqBool_str h
 «strs»:=λk x t v h=>by
  rcases m9 h with⟨i,u,rfl,e⟩|⟨y,u,rfl,e⟩
  ·exact nomatch e
  ·injection e with e1 _;subst e1;cases v<;>rfl
theorem Ud(prog:Program)(w:World)(k:Key)(v:Value):(l9 prog w).is k v=T1 k v:=rfl
theorem US(prog:Program)(w:World)(i:Int)(t:Tok):(l9 prog w).is (.inl i) (.int i t)=true:=Sv i t
theorem UT(prog:Program)(w:World)(x:Str)(t:Tok):(l9 prog w).is (.inr x) (.str x t)=true:=Sw x t
set_option genInjectivity true in
inductive V where
 |aX|bl (b:Bool)|int (i:Int)|str (x:Str)|jR (b:Array UInt8)|ow (b:UInt64)|ref (a:Addr)|ty (n:String)
 deriving DecidableEq
def RelV:V->Value->Prop
 |.aX,u=>u=Value.none
 |.bl b,u=>u=Value.bool b
 |.int i,u=>∃t,u=Value.int i t
 |.str x,u=>∃t,u=Value.str x t
 |.jR b,u=>∃t,u=Value.bytes b t
 |.ow b,u=>∃t,u=Value.float b t
 |.ref a,u=>u=Value.ref a
 |.ty n,u=>u=Value.type n
noncomputable abbrev Vals:List V->List Value->Prop:=Paired RelV
theorem Vals.length{xs:List V}{us:List Value}(r:Vals xs us):xs.length=us.length:=kr r
theorem Vals.get:∀{xs:List V} {us:List Value} {i:Nat} {x:V},Vals xs us->xs[i]?=some x->∃u,us[i]?=some u/\RelV x u
 |_,_,_,_,.nil,e=>by simp at e
 |_,_,0,_,.cons r _,e=>by simp at e;subst e;exact⟨_,rfl,r⟩
 |_,_,i+1,x,.cons _ t,e=>by
  obtain⟨u,h1,h2⟩:=Vals.get (i:=i) (x:=x) t (by simpa using e);exact⟨u,by simpa using h1,h2⟩
theorem Vals.set{x:V}{u:Value}(r:RelV x u):∀{xs:List V} {us:List Value} (i:Nat),Vals xs us->Vals (xs.set i x) (us.set i u)
 |_,_,_,.nil=>.nil
 |_,_,0,.cons _ t=>.cons r t
 |_,_,i+1,.cons q t=>.cons q (Vals.set r i t)
theorem Vals.append{ys:List V}{ws:List Value}(h:Vals xs us)(s:Vals ys ws):Vals (xs++ys) (us++ws):=by
 induction h with
 |nil=>exact s
 |cons r t ih=>exact .cons r ih
theorem Vals.take:∀{xs:List V} {us:List Value} (n:Nat),Vals xs us->Vals (xs.take n) (us.take n)
 |_,_,0,_=>.nil
 |_,_,_+1,.nil=>.nil
 |_,_,n+1,.cons r t=>.cons r (Vals.take n t)
theorem Vals.drop:∀{xs:List V} {us:List Value} (n:Nat),Vals xs us->Vals (xs.drop n) (us.drop n)
 |_,_,0,r=>r
 |_,_,_+1,.nil=>.nil
 |_,_,n+1,.cons _ t=>Vals.drop n t
def A3:Option V->Option Value->Prop
 |some v,some u=>RelV v u
 |none,none=>True
 |_,_=>False
def KV{κ:Type}:List (κ×V)->List (κ×Value)->Prop:=Paired λ(p:κ×V) (q:κ×Value)=>p.1=q.1/\RelV p.2 q.2
def kV:Key->V
 |.inl i=>.int i
 |.inr x=>.str x
inductive HO where
 |lst (xs:List V)
 |tup (xs:List V)
 |dK (kvs:List (Key×V))|dT (kvs:List (List Key×V))
 |set (S:Int->Bool) (n:Nat)
 |ins (C dx:Addr) (fs:List (Str×V))
 |own (x:Addr)
 |xd (fs:List (Str×V))
 |met (f x:Addr)
 |ku (lo hi:Int)
 |iO (o:Obj) (u:HO)
 |mR (ps:Array Value)
 |ext (φ:Heap->Prop)
noncomputable abbrev Hp:=Addr->Option HO
def upd(H:Hp)(a:Addr)(o:HO):Hp:=λb=>if b=a then some o else H b
theorem m6:upd H a o a=some o:=by unfold upd;rw[aJ rfl]
theorem f7(h:b≠a):upd H a o b=H b:=by unfold upd;rw[aB h]
theorem P'{u:HO}(h:H a=some o)(h':H b=some u)(d:o≠u):a≠b:=by
 intro e;subst e;rw[h] at h';exact d (aG h')
theorem j6(h:H a=some o)(h':H b=none):a≠b:=by
 intro e;subst e;rw[h] at h';cases h'
def L4(h:Heap)(a:Addr)(items:Array Value):Prop:=∃o,h.get? a=some o/\o.cls=.type "tuple"/\(∃n,o.data=.seq items n)/\o.dict=none
theorem L4.tup{h:Heap}{a:Addr}{items:Array Value}(x:L4 h a items):IsTup h a items:=let ⟨o,e,c,d,_⟩:=x;⟨o,e,c,d⟩
theorem L4.new(h:Heap)(items:Array Value):L4 (h.push { cls:=.type "tuple",data:=.seq items }) h.objs.size items:=⟨_,au _ rfl,rfl,⟨_,rfl⟩,rfl⟩
section
variable(P:Program)(w:World)
def k6(H:Hp)(h:Heap)(a:Addr):HO->Prop
 |.lst xs=>xs.length<=sizeLine/\∃(aN:List Value) (n:Nat),Vals xs aN/\h.get? a=some { cls:=.type "list",data:=.seq aN.toArray n }
 |.tup xs=>xs.length<=sizeLine/\∃aN:List Value,Vals xs aN/\L4 h a aN.toArray
 |.dK kvs=>kvs.length<=sizeLine/\(a==sysModules)=false/\∃vs,KV kvs vs/\h.DictOf (l9 P w) a vs
 |.dT kvs=>kvs.length<=sizeLine/\(a==sysModules)=false/\∃xs:List (List Key×Addr×Value),
   Paired (λ(p:List Key×V) (q:List Key×Addr×Value)=>p.1=q.1/\H q.2.1=some (.tup (p.1.map kV))/\RelV p.2 q.2.2) kvs xs /\
   ∃o es ep,h.get? a=some o/\o.ExactDict/\o.data=.dict es ep/\es.toList=xs.map (entryOfKey (tupleKind (l9 P w)))/\(xs.map (·.1)).Nodup
 |.set S n=>h.SetOf (intKind P w) a S n
 |.ins C dx fs=>H dx=some (.own a)/\fs.length<=1000/\dx≠a/\h.get? a=some (PySem.W.instObj C dx) /\
   ∃mA,h.Ns1 dx mA/\(∀f,A3 (fs.lookup f) (mA f))/\PySem.Within mA (fs.map (·.1))
 |.own _=>∃o,h.get? a=some o
 |.xd fs=>∃mA,h.Ns1 a mA/\∀f,A3 (fs.lookup f) (mA f)
 |.ku lo hi=>∃t u v,h.get? a=some { cls:=.type "range",data:=.fields #[.int lo t,.int hi u,.int 1 v] }
 |.iO o u=>h.get? a=some o/\k6 H h a u
 |.mR ps=>h.get? a=some { cls:=.none,data:=.fields ps }
 |.met f x=>h.get? a=some (PySem.W.methodObj (.ref f) (.ref x))
 |.ext φ=>φ h/\(∃o,h.get? a=some o)/\∀h1 h2:Heap,φ h1->(∀o,h1.get? a=some o->h2.get? a=some o)->φ h2
def fz(H:Hp)(h:Heap):Prop:=∀a o,H a=some o->k6 P w H h a o
end
theorem k6.lt(x:k6 P w H h a o):a<h.objs.size:=by
 cases o with
 |lst xs=>obtain⟨_,_,_,_,e⟩:=x;exact ao e
 |tup xs=>obtain⟨_,_,_,p⟩:=x;exact p.tup.lt
 |dK kvs=>obtain⟨_,_,_,_,o,_,_,e,_⟩:=x;exact ao e
 |dT kvs=>obtain⟨_,_,_,_,o,_,_,e,_⟩:=x;exact ao e
 |set S n=>obtain⟨o,_,_,_,e,_⟩:=x;exact ao e
 |ins C dx fs=>obtain⟨_,_,_,e,_⟩:=x;exact ao e
 |own y=>obtain⟨_,e⟩:=x;exact ao e
 |xd fs=>obtain⟨_,⟨_,_,_,e,_⟩,_⟩:=x;exact ao e
 |ku lo hi=>obtain⟨_,_,_,e⟩:=x;exact ao e
 |iO ob u=>obtain⟨e,_⟩:=x;exact ao e
 |mR ps=>exact ao (show h.get? a=some _ from x)
 |met f y=>exact ao (show h.get? a=some _ from x)
 |ext φ=>obtain⟨_,⟨_,e⟩,_⟩:=x;exact ao e
theorem Paired.Bz{β:Type}{F G:α->β->Prop}{qG:List α}{qE:List β}(h:Paired F qG qE)(f:∀a b,F a b->G a b):Paired G qG qE:=by
 induction h with
 |nil=>exact .nil
 |cons r t ih=>exact .cons (f _ _ r) ih
theorem k6.T6(x:k6 P w H h a o)(k:∀b u,(b=a\/H b=some (.own a))->h.get? b=some u->h'.get? b=some u)(ho:∀b,H b=some (.own a)->H' b=some (.own a))(ht:∀b xs,H b=some (.tup xs)->H' b=some (.tup xs)):k6 P w H' h' a o:=by
 induction o with
 |lst xs=>obtain⟨z,aN,n,r,e⟩:=x;exact⟨z,aN,n,r,k _ _ (.inl rfl) e⟩
 |tup xs=>obtain⟨z,aN,r,ob,e,c⟩:=x;exact⟨z,aN,r,ob,k _ _ (.inl rfl) e,c⟩
 |dK kvs=>obtain⟨z,y,vs,r,ob,es,ep,e,c⟩:=x;exact⟨z,y,vs,r,ob,es,ep,k _ _ (.inl rfl) e,c⟩
 |dT kvs =>
  obtain⟨z,y,xs,r,ob,es,ep,e,c⟩:=x;exact⟨z,y,xs,Paired.Bz r λp q z=>⟨z.1,ht _ _ z.2.1,z.2.2⟩,ob,es,ep,k _ _ (.inl rfl) e,c⟩
 |set S n=>obtain⟨ob,es,ep,t,e,c⟩:=x;exact⟨ob,es,ep,t,k _ _ (.inl rfl) e,c⟩
 |ins C dx fs =>
  obtain⟨d,z,ne,e,mA,⟨od,es,ep,e2,c⟩,r⟩:=x;exact⟨ho _ d,z,ne,k _ _ (.inl rfl) e,mA,⟨od,es,ep,k _ _ (.inr d) e2,c⟩,r⟩
 |own y=>obtain⟨ob,e⟩:=x;exact⟨ob,k _ _ (.inl rfl) e⟩
 |xd fs=>obtain⟨mA,⟨od,es,ep,e,c⟩,r⟩:=x;exact⟨mA,⟨od,es,ep,k _ _ (.inl rfl) e,c⟩,r⟩
 |ku lo hi=>obtain⟨t,u,v,e⟩:=x;exact⟨t,u,v,k _ _ (.inl rfl) e⟩
 |iO ob u ih=>obtain⟨e,q⟩:=x;exact⟨k _ _ (.inl rfl) e,ih q⟩
 |mR ps =>
  have e:h.get? a=some { cls:=.none,data:=.fields ps }:=x;show h'.get? a=some { cls:=.none,data:=.fields ps };exact k a _ (.inl rfl) e
 |met f y =>
  have e:h.get? a=some (PySem.W.methodObj (.ref f) (.ref y)):=x;show h'.get? a=some (PySem.W.methodObj (.ref f) (.ref y));exact k a _ (.inl rfl) e
 |ext φ=>obtain⟨p,⟨o,e⟩,st⟩:=x;exact⟨st _ _ p λo q=>k _ _ (.inl rfl) q,⟨o,k _ _ (.inl rfl) e⟩,st⟩
theorem fz.lt(x:fz P w H h)(e:H a=some o):a<h.objs.size:=(x a o e).lt
theorem fz.fresh(x:fz P w H h)(e:h.objs.size<=a):H a=none:=by
 cases q:H a with
 |none=>rfl
 |some u=>exact absurd (aq (x.lt q) e) (aZ _)
theorem fz.kept(x:fz P w H h)(k:∀b u,h.get? b=some u->h'.get? b=some u):fz P w H h':=λa o e =>
 (x a o e).T6 (λb u _ q=>k b u q) (λ_ q=>q) λ_ _ q=>q
theorem fz.laid(x:fz P w H h)(k:∀b u,h.get? b=some u->h'.get? b=some u)(hp:h.objs.size<=a)(new:k6 P w (upd H a o) h' a o):fz P w (upd H a o) h':=λb u e=>by
 have hn:=x.fresh hp;by_cases hb:b=a
 ·subst hb;rw[m6] at e;cases e;exact new
 ·rw[f7 hb] at e;exact(x b u e).T6 (λc v _ q=>k c v q) (λc q=>by rw[f7 (j6 q hn)];exact q) λc xs q=>by rw[f7 (j6 q hn)];exact q
def Rd(H:Hp)(a:Addr)(u:HO):Prop:=H a=some u\/∃o,H a=some (.iO o u)
theorem Rd.ok{u:HO}(r:Rd H a u)(x:fz P w H h):k6 P w H h a u:=by
 rcases r with r|⟨o,r⟩
 ·exact x a u r
 ·obtain⟨_,q⟩:=x a _ r;exact q
def tm:Option HO->Prop
 |some (.lst _)=>True
 |some (.dK _)=>True
 |some (.dT _)=>True
 |some (.set _ _)=>True
 |some (.ins _ _ _)=>True
 |some (.ext _)=>True
 |_=>False
section
variable{x e:Addr}{o':HO}
theorem fz.write(ok:fz P w H h)(mu:tm (H x))(he:e=x\/H e=some (.own x))(k:∀b u,b≠e->h.get? b=some u->h'.get? b=some u)(nc:∃u,h'.get? e=some u)(new:k6 P w (upd H x o') h' x o'):fz P w (upd H x o') h':=λb u q=>by
 have qw:∀c y,H c=some (.own y)->c≠x:=λc y r z=>by subst z;rw[r] at mu;exact mu
 have vL:∀c xs,H c=some (.tup xs)->c≠x:=λc xs r z=>by subst z;rw[r] at mu;exact mu
 by_cases hb:b=x
 ·subst hb;rw[m6] at q;cases q;exact new
 ·rw[f7 hb] at q;by_cases oq:b=e
  ·have q':H b=some (.own x):=by
    rcases he with z|z
    ·exact absurd (oq.trans z) hb
    ·rw[oq];exact z
   rw[q] at q';cases q';obtain⟨v,hv⟩:=nc;exact⟨v,by rw[oq];exact hv⟩
  ·refine(ok b u q).T6 (λc v hc r=>k c v ?_ r) (λc r=>by rw[f7 (qw c b r)];exact r) λc xs r=>by rw[f7 (vL c xs r)];exact r
   rcases hc with rfl|hc
   ·exact oq
   ·rintro rfl;rcases he with z|z
    ·exact qw c b hc z
    ·rw[hc] at z;cases z;exact hb rfl
end
structure Un(fs ex:List Addr)(H H':Hp)(h h':Heap):Prop where
 keep:∀b o,h.get? b=some o->H b=none->b∉fs->b∉ex->h'.get? b=some o
 slot:∀b o,h.get? b=some o->H b=none->b∈fs->b∉ex->∃sl,h'.get? b=some { o with slots:=sl }
 free:∀b o,h.get? b=some o->H b=none->b∉ex->H' b=none
 there:∀b o,h.get? b=some o->b∉ex->∃o',h'.get? b=some o'
 gI:∀b xs,H b=some (.tup xs)->H' b=some (.tup xs)
 gy:∀b o u,H b=some (.iO o u)->H' b=some (.iO o u)
 gJ:∀b ps,H b=some (.mR ps)->∃more,H' b=some (.mR (ps++more))
section
variable{fs ex:List Addr}{H1:Hp}{h1:Heap}{x e:Addr}
theorem Un.any(u:Un fs ex H H1 h h1){ob:Obj}(q:h.get? b=some ob)(n:H b=none)(hx:b∉ex):∃sl,h1.get? b=some { ob with slots:=sl }:=by
 by_cases hb:b∈fs
 ·exact u.slot b ob q n hb hx
 ·exact⟨ob.slots,u.keep b ob q n hb hx⟩
theorem Un.kept(k:∀b u,h.get? b=some u->h'.get? b=some u):Un fs ex H H h h' :=
 ⟨λb ob q _ _ _=>k b ob q,λb ob q _ _ _=>⟨ob.slots,k b ob q⟩,λ_ _ _ n _=>n,λb ob q _=>⟨ob,k b ob q⟩,λ_ _ q=>q,λ_ _ _ q=>q,λ_ ps q=>⟨#[],by rw[q];simp⟩⟩
theorem Un.refl:Un fs ex H H h h:=Un.kept λ_ _ q=>q
theorem Un.laid(k:∀b u,h.get? b=some u->h'.get? b=some u)(hp:h.objs.size<=a)(hn:H a=none):Un fs ex H (upd H a o) h h' where
 keep:=λb u q _ _ _=>k b u q
 slot:=λb u q _ _ _=>⟨u.slots,k b u q⟩
 free:=λb u q n _=>by rw[f7 (aI (aq (ao q) hp))];exact n
 there:=λb u q _=>⟨u,k b u q⟩
 gI:=λb xs q=>by rw[f7 (j6 q hn)];exact q
 gy:=λb u xs q=>by rw[f7 (j6 q hn)];exact q
 gJ:=λb ps q=>⟨#[],by rw[f7 (j6 q hn),q];simp⟩
theorem Un.write(mu:tm (H x))(he:e=x\/H e=some (.own x))(k:∀b u,b≠e->h.get? b=some u->h'.get? b=some u)(nc:∃u,h'.get? e=some u):Un fs ex H (upd H x o) h h':=by
 have hx:∀b,H b=none->b≠x:=λb n z=>by subst z;rw[n] at mu;exact mu
 have hb:∀b,H b=none->b≠e:=λb n z=>by
  subst z;rcases he with r|r
  ·exact hx b n r
  ·rw[n] at r;cases r
 have hm:∀b u,H b=some u->¬tm (some u)->b≠x:=λb u q nm z=>by subst z;rw[q] at mu;exact nm mu
 refine ⟨λb u q n _ _=>k b u (hb b n) q,λb u q n _ _=>⟨u.slots,k b u (hb b n) q⟩,λb u q n _=>by rw [f7 (hx b n)];exact n,λb u q _=>?_,
  λb xs q=>by rw [f7 (hm b _ q λz=>z)];exact q,λb u xs q=>by rw [f7 (hm b _ q λz=>z)];exact q,λb ps q=>⟨#[],by rw [f7 (hm b _ q λz=>z),q];simp⟩⟩
 by_cases oq:b=e
 ·subst oq;exact nc
 ·exact⟨u,k b u oq q⟩
end
def ml(h:Heap)(H:Hp):List Addr:=(List.range h.objs.size).filter λa=>(H a).isSome
def Y9(h:Heap)(H:Hp):Heap:=PySem.W.hideAll h (ml h H)
theorem So(h:Heap)(H:Hp):(Y9 h H).objs.size=h.objs.size:=PySem.W.hideAll_size _ _
theorem VH{o:Obj}(e:h.get? b=some o)(n:H b=none):(Y9 h H).get? b=some o :=
 Af _ e λhm=>by
  have q:(H b).isSome=true:=(bV.mp hm).2;rw[n] at q;simp at q
theorem LH{o:Obj}(e:(Y9 h H).get? b=some o):h.get? b=some o/\H b=none:=by
 have e':h.get? b=some o:=F' (ml h H) e;refine⟨e',?_⟩;cases q:H b with
 |none=>rfl
 |some x =>
  have hm:b∈ml h H:=bV.mpr ⟨dt.mpr (ao e'),by simp[q]⟩;have z:(Y9 h H).get? b=none:=PySem.W.hideAll_none (ml h H) hm;rw[z] at e;cases e
structure Mod(K:PySem.W.Frag)(mg:Str->Option Value)(base:Heap):Prop where
 kU:K.In base
 glob:base.Ns mainGlobals mg
 blt:∃mb,base.Ns builtinsNs mb/\∀x:Str,x≠"__name__"->mb x=bootBuiltins x
 nolimit:base.NoLimit
structure Cx where
 prog:Program
 w:World
 K:PySem.W.Frag
 mg:Str->Option Value
 base:Heap
 A:Around
 N:List Str
 cR:Shared
 iy:Hp
 env:Env
 outer:List Env
 stack:List Env
 ex:List Addr
 fn:Str->Bool
 calm:Bool
 pn:List (Addr×Obj)
 xe:Value->Shared->Prop
def fe(l:List Env):List Addr:=l.filterMap (·.frame)
noncomputable abbrev Cx.fs(X:Cx):List Addr:=fe X.outer
def sY(sc:Scope)(x:Str):Prop:=sc.names.lookup x=some .local\/sc.names.lookup x=some .cell\/sc.names.lookup x=some .free
def Loc(sc:Scope)(x:Str):Prop:=sc.names.lookup x=some .local\/sc.names.lookup x=some .cell
def Look(env:Env)(h:Heap)(m:Str->Option Value)(x:Str)(u:Value):Prop :=
 (env.kindOf x=some .local/\m x=some u)\/((env.kindOf x=some .cell\/env.kindOf x=some .free)/\∃c,env.cells.lookup x=some c/\h.IsCell c (some u))
structure Cx.Ok(X:Cx):Prop where
 mod:Mod X.K X.mg X.base
 kind:X.env.scope.kind=.function
 glob:X.env.globals=mainGlobals
 blt:X.env.builtins=builtinsNs
 above:X.cR.heap.objs.size<=X.env.locals
 inj:∀x y c,X.env.cells.lookup x=some c->X.env.cells.lookup y=some c->x=y
 has:∀x,(X.env.kindOf x=some .cell\/X.env.kindOf x=some .free)->∃c,X.env.cells.lookup x=some c
 fu:∀x c,X.fn x=true->X.env.cells.lookup x=some c->X.cR.heap.objs.size<=c
 hd:X.calm=true->X.A.handled=none
 frames:X.A.frames=some X.stack
 nL:X.stack=X.outer\/(X.stack=X.env::X.outer/\X.env.frame=some X.env.locals)
 rT:∀b∈X.ex,b≠X.env.locals/\∀x c,X.env.cells.lookup x=some c->c≠b
 bs:∀b o,X.base.get? b=some o->X.cR.heap.get? b=some o/\X.iy b=none
 lD:X.base.objs.size<=X.cR.heap.objs.size
 ji:∀b o,X.base.get? b=some o->b∉X.ex
 jG:∀b∈X.ex,b∉X.fs
 H9:X.cR.heap.FunFrames X.base X.outer
 lN:∀b∈X.fs,X.iy b=none
structure Inv(X:Cx)(pins:List (Addr×Obj))(Z:List (Option V))(H:Hp)(s:Shared):Prop where
 ok:X.Ok
 os:s.os=X.cR.os
 bare:AllBare s.gens
 base:Un X.fs X.ex X.iy H X.cR.heap s.heap
 loc:∃m,s.heap.Ns X.env.locals m/\∀(i:Nat) (x:Str) (v:V),X.N[i]?=some x->Z[i]?=some (some v)->sY X.env.scope x->∃u,RelV v u/\Look X.env s.heap m x u
 cell:∀x c,X.env.cells.lookup x=some c->∃v,s.heap.IsCell c v
 free:H X.env.locals=none
 dH:∀x c,X.env.cells.lookup x=some c->H c=none
 pin:∀p∈X.pn++pins,s.heap.get? p.1=some p.2/\H p.1=none/\p.1≠X.env.locals/\p.1∉X.fs/\∀v,p.2.data≠.cell v
 bz:fz X.prog X.w H s.heap
 len:Z.length=X.N.length
section
variable{Z:List (Option V)}
theorem Cx.Ok.NV(ok:X.Ok){o:Obj}(e:X.base.get? b=some o):b∉X.fs:=λhb=>by
 have:=(ok.H9.mem hb).1;rw[e] at this;cases this
theorem Inv.bs(I:Inv X pins Z H s):∀b o,X.base.get? b=some o->s.heap.get? b=some o/\H b=none:=λb o e =>
 ⟨I.base.keep b o (I.ok.bs b o e).1 (I.ok.bs b o e).2 (I.ok.NV e) (I.ok.ji b o e),I.base.free b o (I.ok.bs b o e).1 (I.ok.bs b o e).2 (I.ok.ji b o e)⟩
theorem Inv.bk(I:Inv X pins Z H s):∀b o,X.base.get? b=some o->s.heap.get? b=some o:=λb o e=>(I.bs b o e).1
theorem Inv.mod(I:Inv X pins Z H s):Mod X.K X.mg X.base:=I.ok.mod
theorem Inv.fm(I:Inv X pins Z H s):X.K.In s.heap:=I.ok.mod.kU.keeps I.bk
theorem Inv.lt(I:Inv X pins Z H s):X.env.locals<s.heap.objs.size:=let ⟨_,hn,_⟩:=I.loc;hn.lt
theorem Inv.sz(I:Inv X pins Z H s):X.cR.heap.objs.size<=s.heap.objs.size:=aL I.ok.above (cM I.lt)
theorem Inv.sX(I:Inv X pins Z H s)(h:s.heap.objs.size<=a):a∉X.fs:=λhb=>by
 obtain⟨_,o,ho,_⟩:=I.ok.H9.mem hb;exact absurd (aq (ao ho) (aL I.sz h)) (aZ _)
theorem Inv.oE(I:Inv X pins Z H s):∀x c,X.env.cells.lookup x=some c->c≠X.env.locals:=λx c e z=>by
 obtain⟨v,o,ho,hd⟩:=I.cell x c e;obtain⟨m,⟨o',es,ep,kZ,tX,_⟩,_⟩:=I.loc;rw[z,kZ] at ho;cases ho;rw[tX] at hd;cases hd
theorem Inv.H9(I:Inv X pins Z H s):s.heap.FunFrames X.base X.outer:=by
 have all:∀(l:List Env),(∀b∈fe l,b∈X.fs)->X.cR.heap.FunFrames X.base l->s.heap.FunFrames X.base l:=by
  intro l
  induction l with
  |nil=>intro _ _;trivial
  |cons env r ih =>
   intro hs hl;obtain⟨hk,⟨L,o,hf,hn,ho,hd⟩,hr⟩:=hl;have hL:L∈X.fs:=hs L (by unfold fe;rw[dG,hf];exact fF);obtain⟨sl,e⟩:=I.base.slot L o ho (I.ok.lN L hL) hL λz=>I.ok.jG L z hL;exact⟨hk,⟨L,_,hf,hn,e,hd⟩,ih (λb hb=>hs b (by unfold fe;rw[dG,hf];exact bH _ hb)) hr⟩
 exact all X.outer (λ_ hb=>hb) I.ok.H9
theorem Inv.stack(I:Inv X pins Z H s):s.heap.FunFrames X.base X.stack:=by
 rcases I.ok.nL with e|⟨e,hf⟩
 ·rw[e];exact I.H9
 ·rw[e];obtain⟨m,hn,_⟩:=I.loc;refine .cons (by rw[I.ok.kind];decide) hf hn ?_ I.H9;exact Heap.get?_none_of_le (aL I.ok.lD I.ok.above)
theorem Inv.J9(I:Inv X pins Z H s):∀b∈fe X.stack,b∈X.env.locals::X.fs:=λb hb=>by
 rcases I.ok.nL with e|⟨e,hf⟩
 ·rw[e] at hb;exact bH _ hb
 ·rw[e] at hb;unfold fe at hb;rw[dG,hf] at hb;exact hb
theorem Inv.uW(I:Inv X pins Z H s):∀b∈fe X.stack,H b=none:=λb hb=>by
 rcases ay.mp (I.J9 b hb) with e|hb
 ·rw[e];exact I.free
 ·obtain⟨_,o,ho,_⟩:=I.ok.H9.mem hb;exact I.base.free b o ho (I.ok.lN b hb) λz=>I.ok.jG b z hb
theorem Inv.step{g':Array GenState}{t':Nat}{d':Drawn}{ch:List Addr}(I:Inv X pins Z H s)(lJ:∀b∈ch,(b∈X.ex\/X.cR.heap.objs.size<=b)/\b≠X.env.locals/\(∀x c,X.env.cells.lookup x=some c->c≠b)/\∀p∈X.pn++pins,p.1≠b)(keep:∀b o,b≠X.env.locals->b∉X.fs->b∉ch->s.heap.get? b=some o->H b=none->h'.get? b=some o)(slot:∀b o,b≠X.env.locals->b∈X.fs->b∉ch->s.heap.get? b=some o->H b=none->∃sl,h'.get? b=some { o with slots:=sl })(free:∀b o,b∉ch->s.heap.get? b=some o->H b=none->H' b=none)(there:∀b o,b∉ch->s.heap.get? b=some o->∃o',h'.get? b=some o')(gI:∀b xs,H b=some (.tup xs)->H' b=some (.tup xs))(gy:∀b o u,H b=some (.iO o u)->H' b=some (.iO o u))(gJ:∀b ps,H b=some (.mR ps)->∃more,H' b=some (.mR (ps++more)))(ns:∀m,s.heap.Ns X.env.locals m->h'.Ns X.env.locals m)(bz:fz X.prog X.w H' h')(hg:AllBare g') :
  Inv X pins Z H' { s with heap:=h',gens:=g',drawn:=d',toks:=t' }:=by
 have AE:∀b o,X.cR.heap.get? b=some o->b≠X.env.locals:=λb o e=>aI (aq (ao e) I.ok.above);have mW:∀b o,X.cR.heap.get? b=some o->b∉X.ex->b∉ch:=λb o e hx hb=>by
  rcases(lJ b hb).1 with z|z
  ·exact hx z
  ·exact absurd (aq (ao e) z) (aZ _)
 have cellK:∀x c,X.env.cells.lookup x=some c->∀v,s.heap.IsCell c v->h'.IsCell c v:=λx c e v aV=>by
  obtain⟨o,ho,hd⟩:=aV;have qD:c∉ch:=λz=>(lJ c z).2.2.1 x c e rfl;by_cases hc:c∈X.fs
  ·obtain⟨sl,q⟩:=slot c o (I.oE x c e) hc qD ho (I.dH x c e);exact⟨_,q,hd⟩
  ·exact⟨o,keep c o (I.oE x c e) hc qD ho (I.dH x c e),hd⟩
 refine⟨I.ok,I.os,hg,⟨λb o e n hb hx=>?_,λb o e n hb hx=>?_,λb o e n hx=>?_,λb o e hx=>?_,λb xs e=>gI b xs (I.base.gI b xs e),λb o xs e=>gy b o xs (I.base.gy b o xs e),λb ps e=>?_⟩,?_,λx c e=>?_,?_,λx c e=>?_,λp hp=>?_,bz,I.len⟩
 ·exact keep b o (AE b o e) hb (mW b o e hx) (I.base.keep b o e n hb hx) (I.base.free b o e n hx)
 ·obtain⟨sl,e1⟩:=I.base.slot b o e n hb hx;obtain⟨Gs,e2⟩:=slot b _ (AE b o e) hb (mW b o e hx) e1 (I.base.free b o e n hx);exact⟨Gs,e2⟩
 ·obtain⟨o',e1⟩:=I.base.there b o e hx;exact free b o' (mW b o e hx) e1 (I.base.free b o e n hx)
 ·obtain⟨o',e1⟩:=I.base.there b o e hx;exact there b o' (mW b o e hx) e1
 ·obtain⟨m1,e1⟩:=I.base.gJ b ps e;obtain⟨m2,e2⟩:=gJ b _ e1;exact⟨m1++m2,by rw[e2,Gb]⟩
 ·obtain⟨m,hn,hl⟩:=I.loc;refine⟨m,ns m hn,λi x v e1 e2 e3=>?_⟩;obtain⟨u,r,l⟩:=hl i x v e1 e2 e3;refine⟨u,r,?_⟩;rcases l with l|⟨k,c,e,z⟩
  ·exact .inl l
  ·exact .inr ⟨k,c,e,cellK x c e _ z⟩
 ·obtain⟨v,z⟩:=I.cell x c e;exact⟨v,cellK x c e v z⟩
 ·obtain⟨m,⟨o,_,_,ho,_⟩,_⟩:=I.loc;exact free _ o (λz=>(lJ _ z).2.1 rfl) ho I.free
 ·obtain⟨v,o,ho,hd⟩:=I.cell x c e;exact free c o (λz=>(lJ c z).2.2.1 x c e rfl) ho (I.dH x c e)
 ·obtain⟨e,n,ne,nf,d⟩:=I.pin p hp;have qD:p.1∉ch:=λz=>(lJ p.1 z).2.2.2 p hp rfl;exact⟨keep p.1 p.2 ne nf qD e n,free p.1 p.2 qD e n,ne,nf,d⟩
theorem Inv.un{t':Nat}(I:Inv X pins Z H s)(u:Un X.fs [] H H' s.heap h')(bz:fz X.prog X.w H' h'):Inv X pins Z H' { s with heap:=h',toks:=t' }:=by
 obtain⟨m,⟨o,es,ep,ho,r⟩,_⟩:=id I.loc;obtain⟨sl,hL⟩:=u.any ho I.free (by simp);exact I.step (g':=s.gens) (d':=s.drawn) (ch:=[]) (λ_ z=>nomatch z) (λb o _ hb _ e n=>u.keep b o e n hb (by simp)) (λb o _ hb _ e n=>u.slot b o e n hb (by simp)) (λb o _ e n=>u.free b o e n (by simp)) (λb o _ e=>u.there b o e (by simp)) u.gI u.gy u.gJ (λm' hm=>by
  obtain⟨o',xH,xI,kZ,r'⟩:=hm;rw[ho] at kZ;cases kZ;exact ⟨_,xH,xI,hL,r'⟩) bz I.bare
theorem Inv.call{g':Array GenState}{t':Nat}{d':Drawn}(I:Inv X pins Z H s)(u:Un (fe X.stack) ch H H' s.heap h')(bz:fz X.prog X.w H' h')(hg:AllBare g')(lJ:∀b∈ch,(b∈X.ex\/X.cR.heap.objs.size<=b)/\b≠X.env.locals/\(∀x c,X.env.cells.lookup x=some c->c≠b)/\∀p∈X.pn++pins,p.1≠b) :
  Inv X pins Z H' { s with heap:=h',gens:=g',drawn:=d',toks:=t' }:=by
 obtain⟨m,⟨o,es,ep,ho,r⟩,_⟩:=id I.loc;obtain⟨sl,hL⟩:=u.any ho I.free λz=>(lJ _ z).2.1 rfl;exact I.step (ch:=ch) lJ (λb o hL hb hc e n=>u.keep b o e n (λz=>(ay.mp (I.J9 b z)).elim hL hb) hc) (λb o _ _ hc e n=>u.any e n hc) (λb o hc e n=>u.free b o e n hc) (λb o hc e=>u.there b o e hc) u.gI u.gy u.gJ (λm' hm=>by
  obtain⟨o',xH,xI,kZ,r'⟩:=hm;rw[ho] at kZ;cases kZ;exact ⟨_,xH,xI,hL,r'⟩) bz hg
theorem Inv.turned{t':Nat}{it:Addr}(I:Inv X pins Z H s)(k:∀b o,b≠it->s.heap.get? b=some o->h'.get? b=some o)(hn:H it=none)(hL:it≠X.env.locals)(h1:it∈X.ex\/X.cR.heap.objs.size<=it)(h2:∀x c,X.env.cells.lookup x=some c->c≠it)(h3:∀p∈X.pn++pins,p.1≠it):Inv X pins Z H { s with heap:=h',toks:=t' }:=by
 have AD:∀b u,H b=some u->b≠it:=λb u e z=>by rw[z,hn] at e;cases e
 refine I.step (g':=s.gens) (d':=s.drawn) (ch:=[it]) (λb hb=>?_) (λb o _ _ hc e _=>k b o (λz=>hc (by simp[z])) e) (λb o _ _ hc e _=>⟨o.slots,k b o (λz=>hc (by simp[z])) e⟩) (λ_ _ _ _ n=>n)
  (λb o hc e=>⟨o,k b o (λz=>hc (by simp[z])) e⟩) (λ_ _ e=>e) (λ_ _ _ e=>e) (λb ps e=>⟨#[],by rw[e];simp⟩) (λm hm=>?_) (λb u e=>?_) I.bare
 ·have e:b=it:=by simpa using hb
  subst e;exact⟨h1,hL,h2,h3⟩
 ·obtain⟨o,es,ep,ho,r⟩:=hm;exact⟨o,es,ep,k _ o (ba hL) ho,r⟩
 ·refine(I.bz b u e).T6 (λc v hc q=>k c v ?_ q) (λ_ q=>q) λ_ _ q=>q;rcases hc with z|z
  ·rw[z];exact AD b u e
  ·exact AD c _ z
theorem Inv.tok(I:Inv X pins Z H s)(t:Nat):Inv X pins Z H { s with toks:=t }:=I.un (h':=s.heap) (t':=t) Un.refl I.bz
theorem Inv.kept{t':Nat}(I:Inv X pins Z H s)(k:∀b u,s.heap.get? b=some u->h'.get? b=some u):Inv X pins Z H { s with heap:=h',toks:=t' }:=I.un (Un.kept k) (I.bz.kept k)
theorem Inv.laid{a:Addr}{o:HO}{t':Nat}(I:Inv X pins Z H s)(k:∀b u,s.heap.get? b=some u->h'.get? b=some u)(hp:s.heap.objs.size<=a)(new:k6 X.prog X.w (upd H a o) h' a o) :
  Inv X pins Z (upd H a o) { s with heap:=h',toks:=t' }:=I.un (Un.laid k hp (I.bz.fresh hp)) (I.bz.laid k hp new)
theorem Inv.write{x e:Addr}{o:HO}{t':Nat}(I:Inv X pins Z H s)(mu:tm (H x))(he:e=x\/H e=some (.own x))(k:∀b u,b≠e->s.heap.get? b=some u->h'.get? b=some u)(nc:∃u,h'.get? e=some u)(new:k6 X.prog X.w (upd H x o) h' x o):Inv X pins Z (upd H x o) { s with heap:=h',toks:=t' }:=I.un (Un.write mu he k nc) (I.bz.write mu he k nc new)
theorem Inv.weak{bD:List (Option V)}(I:Inv X pins Z H s)(hl:bD.length=Z.length)(w:∀(i:Nat) v,bD[i]?=some (some v)->Z[i]?=some (some v)):Inv X pins bD H s :=
 ⟨I.ok,I.os,I.bare,I.base,let ⟨m,hn,tV⟩:=I.loc;⟨m,hn,λi x v e1 e2 e3=>tV i x v e1 (w i v e2) e3⟩,I.cell,I.free,I.dH,I.pin,I.bz,hl.trans I.len⟩
theorem Inv.J5{gY:List (Addr×Obj)}(I:Inv X pins Z H s)(h:∀p∈gY,s.heap.get? p.1=some p.2/\H p.1=none/\p.1≠X.env.locals/\p.1∉X.fs/\∀v,p.2.data≠.cell v):Inv X gY Z H s :=
 ⟨I.ok,I.os,I.bare,I.base,I.loc,I.cell,I.free,I.dH,λp hp=>(eX.mp hp).elim (λz=>I.pin p (dw _ z)) (h p),I.bz,I.len⟩
theorem FO(hN:N.Nodup)(a:N[i]?=some x)(b:N[j]?=some x):i=j:=by
 obtain⟨h1,e1⟩:=az.mp a;obtain⟨h2,e2⟩:=az.mp b;exact(List.getElem_inj hN).mp (e1.trans e2.symm)
theorem Dw{Q:Unit->Shared->Prop}(I:Inv X pins Z H s)(hN:X.N.Nodup)(hi:X.N[i]?=some x)(hx:Loc X.env.scope x)(r:RelV v u)(h:∀s',Inv X pins (Z.set i (some v)) H s'->(∃a,Heap.SameBut a s.heap s'.heap/\(a=X.env.locals\/X.env.cells.lookup x=some a))->Q () s')(hf:X.fn x=true\/X.env.scope.names.lookup x=some .local:=by first|exact .inl rfl|exact .inr rfl|assumption):wpAny M A (storeName X.env x u) Q E s:=by
 obtain⟨m,hn,hl⟩:=id I.loc;have mF:(X.env.scope.kind==.class||(X.env.scope.kind==.module&&X.env.locals != X.env.globals))=false:=by rw[I.ok.kind];rfl
 have qW:i<Z.length:=by rw[I.len];exact(az.mp hi).1
 have oE:=I.oE;have tracked:∀{a:Addr} {h':Heap},(∃o,s.heap.get? a=some o/\H a=none)->Heap.SameBut a s.heap h'->fz X.prog X.w H h':=λ{a h'} ha hs b ob e=>by
  obtain⟨_,_,lq⟩:=ha;refine(I.bz b ob e).T6 (λc w' hc q=>(hs.2 c ?_).trans q) (λ_ q=>q) λ_ _ q=>q;rintro rfl;rcases hc with rfl|hc
  ·rw[lq] at e;cases e
  ·rw[lq] at hc;cases hc
 rcases hx with hk|hk
 ·refine wpAny_storeName_local hk hn (λh' Hh hs=>?_) mF;obtain⟨oL,_,_,ke,_⟩:=id hn;refine h _ ⟨I.ok,I.os,I.bare,⟨λb o e n hb hx=>?_,λb o e n hb hx=>?_,I.base.free,λb o e hx=>?_,I.base.gI,I.base.gy,I.base.gJ⟩,⟨_,Hh,λj y v' e1 e2 e3=>?_⟩,λy c e=>?_,I.free,I.dH,λp hp=>?_,tracked ⟨oL,ke,I.free⟩ hs,by simpa using I.len⟩ ⟨_,hs,.inl rfl⟩
  ·exact(hs.2 b (aI (aq (ao e) I.ok.above))).trans (I.base.keep b o e n hb hx)
  ·obtain⟨sl,e1⟩:=I.base.slot b o e n hb hx;exact⟨sl,(hs.2 b (aI (aq (ao e) I.ok.above))).trans e1⟩
  ·obtain⟨o',e1⟩:=I.base.there b o e hx;exact⟨o',(hs.2 b (aI (aq (ao e) I.ok.above))).trans e1⟩
  ·by_cases hj:j=i
   ·subst hj;rw[hi] at e1;cases e1;rw[aU qW] at e2;cases e2;exact⟨u,r,.inl ⟨hk,by simp⟩⟩
   ·rw[aK (ba hj)] at e2;obtain⟨u',r',q⟩:=hl j y v' e1 e2 e3;refine⟨u',r',?_⟩;rcases q with⟨k,e⟩|⟨k,c,e,z⟩
    ·refine .inl ⟨k,?_⟩;have:y≠x:=λe=>hj (FO hN e1 (e▸hi));simp[this,e]
    ·exact .inr ⟨k,c,e,z.sameBut hs (oE y c e)⟩
  ·obtain⟨w',z⟩:=I.cell y c e;exact⟨w',z.sameBut hs (oE y c e)⟩
  ·obtain⟨e,n,ne,nf,d⟩:=I.pin p hp;exact⟨(hs.2 p.1 ne).trans e,n,ne,nf,d⟩
 ·have pz:X.fn x=true:=by
   rcases hf with z|z
   ·exact z
   ·rw[z] at hk;cases hk
  obtain⟨c,hc⟩:=I.ok.has x (.inl hk);obtain⟨w',z⟩:=I.cell x c hc;refine wpAny_storeName_cell I.ok.kind hk hc z (λh' rm hs=>?_);obtain⟨oc,wm,wk⟩:=id z;refine h { s with heap:=h' } ⟨I.ok,I.os,I.bare,⟨λb o e n hb hx=>?_,λb o e n hb hx=>?_,I.base.free,λb o e hx=>?_,I.base.gI,I.base.gy,I.base.gJ⟩,⟨m,hn.sameBut hs (ba (oE x c hc)),λj y v' e1 e2 e3=>?_⟩,λy c' e=>?_,I.free,I.dH,λp hp=>?_,tracked ⟨oc,wm,I.dH x c hc⟩ hs,by simpa using I.len⟩ ⟨c,hs,.inr hc⟩
  ·exact(hs.2 b (aI (aq (ao e) (I.ok.fu x c pz hc)))).trans (I.base.keep b o e n hb hx)
  ·obtain⟨sl,e1⟩:=I.base.slot b o e n hb hx;exact⟨sl,(hs.2 b (aI (aq (ao e) (I.ok.fu x c pz hc)))).trans e1⟩
  ·obtain⟨o',e1⟩:=I.base.there b o e hx;exact⟨o',(hs.2 b (aI (aq (ao e) (I.ok.fu x c pz hc)))).trans e1⟩
  ·by_cases hj:j=i
   ·subst hj;rw[hi] at e1;cases e1;rw[aU qW] at e2;cases e2;exact⟨u,r,.inr ⟨.inl hk,c,hc,rm⟩⟩
   ·rw[aK (ba hj)] at e2;obtain⟨u',r',q⟩:=hl j y v' e1 e2 e3;refine⟨u',r',?_⟩;rcases q with q|⟨k,c',e,z'⟩
    ·exact .inl q
    ·refine .inr ⟨k,c',e,z'.sameBut hs ?_⟩;rintro rfl;exact hj (FO hN e1 (I.ok.inj _ _ _ e hc▸hi))
  ·by_cases pA:c'=c
   ·subst pA;exact⟨_,rm⟩
   ·obtain⟨w2,z2⟩:=I.cell y c' e;exact⟨w2,z2.sameBut hs pA⟩
  ·obtain⟨e,n,ne,nf,d⟩:=I.pin p hp;refine⟨(hs.2 p.1 ?_).trans e,n,ne,nf,d⟩;intro q;rw[q,wm] at e;have q':oc=p.2:=aG e;exact d w' (by rw[<- q'];exact wk)
theorem P5{Q:Unit->Shared->Prop}(I:Inv X pins Z H s)(hN:X.N.Nodup)(hi:X.N[i]?=some x)(hx:Loc X.env.scope x)(r:RelV v u)(h:∀s',Inv X pins (Z.set i (some v)) H s'->Q () s')(hf:X.fn x=true\/X.env.scope.names.lookup x=some .local:=by first|exact .inl rfl|exact .inr rfl|assumption):wpAny M A (storeName X.env x u) Q E s :=
 Dw I hN hi hx r (λs' I' _=>h s' I') hf
theorem Inv.zj{s':Shared}(I:Inv X pins Z H s)(ho:s'.os=s.os)(u:Un (fe X.stack) ch H H' s.heap s'.heap)(bz:fz X.prog X.w H' s'.heap)(hg:AllBare s'.gens)(lJ:∀b∈ch,(b∈X.ex\/X.cR.heap.objs.size<=b)/\b≠X.env.locals/\(∀x c,X.env.cells.lookup x=some c->c≠b)/\∀p∈X.pn++pins,p.1≠b):Inv X pins Z H' s':=by
 obtain⟨h',g',d',t',o'⟩:=s';have e:o'=s.os:=ho;subst e;exact I.call (g':=g') (t':=t') (d':=d') u bz hg lJ
end
noncomputable abbrev XK:=Value->Option Addr->Hp->Prop
noncomputable abbrev St:=List (Option V)
noncomputable abbrev VK:=V->Hp->Prop
noncomputable abbrev TE:=St->Hp->VK->Prop
noncomputable abbrev TT:=St->Hp->(Bool->Hp->Prop)->Prop
noncomputable abbrev TA:=St->Hp->(List V->Hp->Prop)->Prop
structure Ends where
 nx:St->Hp->Prop
 rt:VK
 bk:St->Hp->Prop:=λ_ _=>False
 ct:St->Hp->Prop:=λ_ _=>False
noncomputable abbrev TS:=Ends->St->Hp->Prop
def EP(X:Cx)(pins:List (Addr×Obj))(Z:St)(Q:VK)(u:Value)(s':Shared):Prop:=∃v H',Inv X pins Z H' s'/\RelV v u/\Q v H'
def TP(X:Cx)(pins:List (Addr×Obj))(Z:St)(Q:Bool->Hp->Prop)(b:Bool)(s':Shared):Prop:=∃H',Inv X pins Z H' s'/\Q b H'
def AP(X:Cx)(pins:List (Addr×Obj))(Z:St)(Q:List V->Hp->Prop)(us:List Value)(s':Shared):Prop:=∃vs H',Inv X pins Z H' s'/\Vals vs us/\Q vs H'
def SP(X:Cx)(pins:List (Addr×Obj))(D:Ends)(f:Flow)(s':Shared):Prop :=
 match f with
 |.next=>∃bD H',Inv X pins bD H' s'/\D.nx bD H'
 |.brk=>∃bD H',Inv X pins bD H' s'/\D.bk bD H'
 |.cont=>∃bD H',Inv X pins bD H' s'/\D.ct bD H'
 |.ret u=>∃v bD H',Inv X pins bD H' s'/\RelV v u/\D.rt v H'
def PE(X:Cx)(e:Expr)(t:TE):Prop :=
 ∀(pins:List (Addr×Obj)) (s:Shared) (Z:St) (H:Hp) (Q:VK),Inv X pins Z H s->t Z H Q->wpAny (model X.prog X.w) X.A (eval e X.env) (EP X pins Z Q) X.xe s
def PT(X:Cx)(e:Expr)(t:TT):Prop :=
 ∀(pins:List (Addr×Obj)) (s:Shared) (Z:St) (H:Hp) (Q:Bool->Hp->Prop),Inv X pins Z H s->t Z H Q->wpAny (model X.prog X.w) X.A (isTrue e X.env (eval e X.env)) (TP X pins Z Q) X.xe s
def PW(X:Cx)(e:Expr)(t:TT):Prop :=
 ∀(whole:Sem Value) (pins:List (Addr×Obj)) (s:Shared) (Z:St) (H:Hp) (Q:Bool->Hp->Prop),Inv X pins Z H s->t Z H Q->wpAny (model X.prog X.w) X.A (isTrue e X.env whole) (TP X pins Z Q) X.xe s
theorem PW.pt{t:TT}(h:PW X e t):PT X e t:=h _
def PA(X:Cx)(es:List Expr)(t:TA):Prop :=
 ∀(pos:Pos) (pins:List (Addr×Obj)) (s:Shared) (Z:St) (H:Hp) (Q:List V->Hp->Prop),Inv X pins Z H s->t Z H Q->wpAny (model X.prog X.w) X.A (spliced (backTo pos (starEach es X.env))) (AP X pins Z Q) X.xe s
def PS(X:Cx)(st:Stmt)(t:TS):Prop :=
 ∀(pins:List (Addr×Obj)) (s:Shared) (Z:St) (H:Hp) (D:Ends),Inv X pins Z H s->t D Z H->wpAny (model X.prog X.w) X.A (exec st X.env) (SP X pins D) X.xe s
def ic(X:Cx)(st:List Stmt)(t:TS):Prop :=
 ∀(pins:List (Addr×Obj)) (s:Shared) (Z:St) (H:Hp) (D:Ends),Inv X pins Z H s->t D Z H->wpAny (model X.prog X.w) X.A (execs st X.env) (SP X pins D) X.xe s
theorem cb{t:Sem α}{Q Q':α->Shared->Prop}(h:wpAny M A t Q E s)(hQ:∀a s,Q a s->Q' a s):wpAny M A t Q' E s:=bg h hQ λ_ _ x=>x
section
theorem bin{a b:Expr}(ha:PE X a ta)(hb:PE X b tb){R:V->V->Hp->Prop}(I:Inv X pins Z H s)(h:ta Z H λx H1=>tb Z H1 λy H2=>R x y H2){Q:α->Shared->Prop}{f:Value->Value->Sem α}(hf:∀v u s2 x y H2,Inv X pins Z H2 s2->RelV x v->RelV y u->R x y H2->wpAny (model X.prog X.w) X.A (f v u) Q X.xe s2) :
  wpAny (model X.prog X.w) X.A (eval a X.env) (λv bI=>wpAny (model X.prog X.w) X.A (eval b X.env) (λu eZ=>wpAny (model X.prog X.w) X.A (f v u) Q X.xe eZ) X.xe bI) X.xe s:=by
 refine cb (ha pins s Z H _ I h) λv s1 aV=>?_;obtain⟨x,H1,I1,r1,q1⟩:=aV;refine cb (hb pins s1 Z H1 _ I1 q1) λu s2 aV=>?_;obtain⟨y,H2,I2,r2,q2⟩:=aV;exact hf v u s2 x y H2 I2 r1 r2 q2
def OL(i:Nat):TE:=λZ H Q=>∃v,Z[i]?=some (some v)/\Q v H
def tC(v:V):TE:=λ_ H Q=>Q v H
theorem Jy(hN:X.N[i]?=some x)(hv:sY X.env.scope x)(hd:(x==("__debug__":Str))=false:=by decide)(kh:(x==("__classdict__":Str))=false:=by decide):PE X (.Name x pos) (OL i):=by
 intro pins s Z H Q I h;obtain⟨v,e,h⟩:=h;obtain⟨m,hn,hl⟩:=I.loc;obtain⟨u,r,l⟩:=hl i x v hN e hv;have fin:EP X pins Z Q u s:=⟨v,H,I,r,h⟩
 rcases l with⟨hk,hm⟩|⟨hk,c,hc,jP⟩
 ·exact wpAny_Name (wpAny_loadName_local I.ok.kind hk hn hm fin) hd
 ·rcases hk with hk|hk
  ·exact wpAny_Name (wpAny_loadName_cell I.ok.kind hk hc jP fin) hd
  ·exact wpAny_Name (wpAny_loadName_free I.ok.kind hk hc jP fin kh) hd
theorem Js{i j pos}:PE X (.Constant (.int i) j pos) (tC (.int i)):=λ_ _ _ H _ I h=>wpAny_Constant_int ⟨.int i,H,I.tok _,⟨_,rfl⟩,h⟩
theorem Qi{b j pos}:PE X (.Constant (.bool b) j pos) (tC (.bl b)):=λ_ _ _ H _ I h=>Constant_bool ⟨.bl b,H,I,rfl,h⟩
theorem Ju{j pos}:PE X (.Constant .none j pos) (tC .aX):=λ_ _ _ H _ I h=>Constant_none ⟨.aX,H,I,rfl,h⟩
theorem Ez{x j pos}:PE X (.Constant (.str x) j pos) (tC (.str x)):=λ_ _ _ H _ I h=>Calls.Constant_str ⟨.str x,H,I.tok _,⟨_,rfl⟩,h⟩
def Gl(X:Cx)(x:Str):Prop:=X.env.kindOf x=some .globalImplicit
theorem M1(I:Inv X pins Z H s)(hg:Gl X x)(hm:X.mg x=some u)(h:Q u s)(hd:(x==("__debug__":Str))=false:=by decide):wpAny (model X.prog X.w) X.A (eval (.Name x pos) X.env) Q E s :=
 vx I.ok.kind hg (Calls.loadGlobal_global (by rw[I.ok.glob];exact I.mod.glob.keeps I.bk) hm h) hd
theorem K6(I:Inv X pins Z H s)(hg:Gl X x)(hm:X.mg x=none)(hv:bootBuiltins x=some u)(h:Q u s)(hn:x≠"__name__":=by decide)(hd:(x==("__debug__":Str))=false:=by decide):wpAny (model X.prog X.w) X.A (eval (.Name x pos) X.env) Q E s:=by
 obtain⟨mb,h1,h2⟩:=I.mod.blt;exact vx I.ok.kind hg (Calls.loadGlobal_builtin (by rw[I.ok.glob];exact I.mod.glob.keeps I.bk) hm (by rw[I.ok.blt];exact h1.keeps I.bk) ((h2 x hn).trans hv) h) hd
theorem uU(hg:Gl X x)(hm:X.mg x=some u)(r:RelV v u)(hd:(x==("__debug__":Str))=false:=by decide):PE X (.Name x pos) (tC v) :=
 λ_ _ _ H _ I h=>M1 I hg hm ⟨v,H,I,r,h⟩ hd
theorem LW(hg:Gl X x)(hm:X.mg x=none)(hv:bootBuiltins x=some u)(r:RelV v u)(hn:x≠"__name__":=by decide)(hd:(x==("__debug__":Str))=false:=by decide):PE X (.Name x pos) (tC v) :=
 λ_ _ _ H _ I h=>K6 I hg hm hv ⟨v,H,I,r,h⟩ hn hd
variable{a b:Expr}
variable{tA tL:TT}{rest:List Expr}
def Ox(t u:TT):TT:=λZ H Q=>t Z H λc H1=>if c=true then u Z H1 Q else Q false H1
def Gk(t u:TT):TT:=λZ H Q=>t Z H λc H1=>if c=true then Q true H1 else u Z H1 Q
def OE(t:TT):TT:=λZ H Q=>t Z H λc H1=>Q (!c) H1
theorem Mn(ha:PT X a tA):PW X (.BoolOp .And [a] pos) tA:=by
 intro wh pins s Z H Q I h;refine isTrue_and (cb (ha pins s Z H Q I h) λc s1 e=>?_);cases c with
 |true=>exact isTrue_and_nil e
 |false=>exact e
theorem JL(ha:PT X a tA):PW X (.BoolOp .Or [a] pos) tA:=by
 intro wh pins s Z H Q I h;refine isTrue_or (cb (ha pins s Z H Q I h) λc s1 e=>?_);cases c with
 |false=>exact isTrue_or_nil e
 |true=>exact e
theorem JK(ha:PT X a tA)(hb:PW X (.BoolOp .And (b::rest) pos) tL):PW X (.BoolOp .And (a::b::rest) pos) (Ox tA tL):=by
 intro wh pins s Z H Q I h;refine isTrue_and (cb (ha pins s Z H _ I h) λc s1 ⟨H1,I1,q1⟩=>?_);cases c with
 |true=>exact hb wh pins s1 Z H1 Q I1 q1
 |false=>exact⟨H1,I1,q1⟩
theorem Qq(ha:PT X a tA)(hb:PW X (.BoolOp .Or (b::rest) pos) tL):PW X (.BoolOp .Or (a::b::rest) pos) (Gk tA tL):=by
 intro wh pins s Z H Q I h;refine isTrue_or (cb (ha pins s Z H _ I h) λc s1 ⟨H1,I1,q1⟩=>?_);cases c with
 |true=>exact⟨H1,I1,q1⟩
 |false=>exact hb wh pins s1 Z H1 Q I1 q1
theorem JJ(ha:PT X a tA):PT X (.UnaryOp .Not a pos) (OE tA):=by
 intro pins s Z H Q I h;exact isTrue_not (ha pins s Z H (λc H1=>Q (!c) H1) I h)
def QF(ta tb:TE):TE:=λZ H Q=>ta Z H λx H1=>∃c,x=.bl c/\if c=true then tb Z H1 Q else Q (.bl false) H1
def OF(ta tb:TE):TE:=λZ H Q=>ta Z H λx H1=>∃c,x=.bl c/\if c=true then Q (.bl true) H1 else tb Z H1 Q
def QJ(ta:TE):TE:=λZ H Q=>ta Z H λx H1=>∃c,x=.bl c/\Q (.bl (!c)) H1
theorem Jw{op}{t:TE}(h:PE X a t):PE X (.BoolOp op [a] pos) t:=λpins s Z H Q I hw=>BoolOp_one (h pins s Z H Q I hw)
theorem Jp(ha:PE X a ta)(hb:PE X (.BoolOp .And (b::rest) pos) tb):PE X (.BoolOp .And (a::b::rest) pos) (QF ta tb):=by
 intro pins s Z H Q I h;refine BoolOp_and (cb (ha pins s Z H _ I h) λv s1 aV=>?_);obtain⟨x,H1,I1,r1,q1⟩:=aV;obtain⟨c,rfl,q1⟩:=q1;cases r1;refine cj ?_;cases c with
 |true=>exact hb pins s1 Z H1 Q I1 q1
 |false=>exact⟨.bl false,H1,I1,rfl,q1⟩
theorem Qm(ha:PE X a ta)(hb:PE X (.BoolOp .Or (b::rest) pos) tb):PE X (.BoolOp .Or (a::b::rest) pos) (OF ta tb):=by
 intro pins s Z H Q I h;refine BoolOp_or (cb (ha pins s Z H _ I h) λv s1 aV=>?_);obtain⟨x,H1,I1,r1,q1⟩:=aV;obtain⟨c,rfl,q1⟩:=q1;cases r1;refine cj ?_;cases c with
 |false=>exact hb pins s1 Z H1 Q I1 q1
 |true=>exact⟨.bl true,H1,I1,rfl,q1⟩
theorem Jv(ha:PE X a ta):PE X (.UnaryOp .Not a pos) (QJ ta):=by
 intro pins s Z H Q I h;refine UnaryOp_ (cb (ha pins s Z H _ I h) λv s1 aV=>?_);obtain⟨x,H1,I1,r1,q1⟩:=aV;obtain⟨c,rfl,q1⟩:=q1;cases r1;exact not_of (cj ⟨.bl (!c),H1,I1,rfl,q1⟩)
def Gm(t:TT)(ta tb:TE):TE:=λZ H Q=>t Z H λc H1=>if c=true then ta Z H1 Q else tb Z H1 Q
theorem Wi(hc:PT X c tA)(ha:PE X a ta)(hb:PE X b tb):PE X (.IfExp c a b pos) (Gm tA ta tb):=by
 intro pins s Z H Q I h;refine wpAny_IfExp (cb (hc pins s Z H _ I h) λd s1 ⟨H1,I1,q1⟩=>?_);cases d with
 |true=>exact ha pins s1 Z H1 Q I1 q1
 |false=>exact hb pins s1 Z H1 Q I1 q1
end
def eW(K:PySem.W.Frag)(H:Hp)(a:Addr)(xs:List V):Prop :=
 Rd H a (.lst xs) \/
  ∃(o:Obj) (aN:Array Value) (n:Nat),K.lookup a=some o/\o.cls=.type "list"/\o.dict=none/\o.data=.seq aN n/\aN.size<=sizeLine/\Vals xs aN.toList
def gD(K:PySem.W.Frag)(H:Hp)(a:Addr)(xs:List V):Prop :=
 Rd H a (.tup xs) \/
  ∃(o:Obj) (aN:Array Value) (n:Nat),K.lookup a=some o/\o.cls=.type "tuple"/\o.data=.seq aN n/\aN.size<=sizeLine/\Vals xs aN.toList
def Nf:Value->Option V
 |.none=>some .aX
 |.bool b=>some (.bl b)
 |.int i _=>some (.int i)
 |.str x _=>some (.str x)
 |.bytes b _=>some (.jR b)
 |.float b _=>some (.ow b)
 |.ref a=>some (.ref a)
 |.type n=>some (.ty n)
 |_=>none
theorem RelV.abs{x:V}(r:RelV x u):Nf u=some x:=by
 cases x with
 |aX=>cases r;rfl
 |bl _=>cases r;rfl
 |int _=>obtain⟨t,rfl⟩:=r;rfl
 |str _=>obtain⟨t,rfl⟩:=r;rfl
 |jR _=>obtain⟨t,rfl⟩:=r;rfl
 |ow _=>obtain⟨t,rfl⟩:=r;rfl
 |ref _=>cases r;rfl
 |ty _=>cases r;rfl
theorem RelV.inj{x y:V}{u:Value}(r:RelV x u)(q:RelV y u):x=y:=aG (r.abs.symm.trans q.abs)
theorem Vals.inj{xs ys:List V}{us:List Value}(h:Vals xs us)(h':Vals ys us):xs=ys:=by
 induction h generalizing ys with
 |nil=>cases h';rfl
 |cons r t ih =>
  cases h' with
  |cons r' t'=>rw[r.inj r',ih t']
section
variable{ys:List V}
theorem eW.of(h:H a=some (.lst xs)):eW K H a xs:=.inl (.inl h)
theorem Inv.list(I:Inv X pins Z H s)(h:eW X.K H a xs):∃aN:List Value,Vals xs aN/\PlainL s.heap a aN.toArray/\xs.length<=sizeLine:=by
 rcases h with h|⟨o,aN,n,hk,hc,hd,hs,hz,r⟩
 ·obtain⟨z,aN,n,r,e⟩:=h.ok I.bz;exact⟨aN,r,⟨_,n,e,rfl,rfl,rfl⟩,z⟩
 ·refine⟨aN.toList,r,⟨o,n,I.fm a o hk,hc,hd,by simpa using hs⟩,?_⟩;have e:=r.length;simp only[Array.length_toList] at e;omega
theorem Inv.tuple(I:Inv X pins Z H s)(h:gD X.K H a xs):∃aN:List Value,Vals xs aN/\IsTup s.heap a aN.toArray/\xs.length<=sizeLine:=by
 rcases h with h|⟨o,aN,n,hk,hc,hs,hz,r⟩
 ·obtain⟨z,aN,r,p⟩:=h.ok I.bz;exact⟨aN,r,p.tup,z⟩
 ·refine⟨aN.toList,r,⟨o,I.fm a o hk,hc,n,by simpa using hs⟩,?_⟩;have e:=r.length;simp only[Array.length_toList] at e;omega
theorem Inv.yL(I:Inv X pins Z H s)(h:eW X.K H a xs)(h':eW X.K H a ys):xs=ys:=by
 obtain⟨aN,r,⟨o,n,e,_,_,d⟩,_⟩:=I.list h;obtain⟨its',r',⟨o',n',e',_,_,d'⟩,_⟩:=I.list h';rw[e] at e';cases e';rw[d] at d';injection d' with d1 _;have:aN=its':=by simpa using dM Array.toList d1
 subst this;exact r.inj r'
theorem Inv.To(I:Inv X pins Z H s)(h:gD X.K H a xs)(h':gD X.K H a ys):xs=ys:=by
 obtain⟨aN,r,⟨o,e,_,n,d⟩,_⟩:=I.tuple h;obtain⟨its',r',⟨o',e',_,n',d'⟩,_⟩:=I.tuple h';rw[e] at e';cases e';rw[d] at d';injection d' with d1 _;have:aN=its':=by simpa using dM Array.toList d1
 subst this;exact r.inj r'
end
noncomputable abbrev Cx.V7(X:Cx)(E:Value->Shared->Prop):Cx:={ X with xe:=E }
theorem Cx.Ok.V7{X:Cx}(ok:X.Ok)(E:Value->Shared->Prop):(X.V7 E).Ok :=
 ⟨ok.mod,ok.kind,ok.glob,ok.blt,ok.above,ok.inj,ok.has,ok.fu,ok.hd,ok.frames,ok.nL,ok.rT,ok.bs,ok.lD,ok.ji,ok.jG,ok.H9,ok.lN⟩
theorem Cx.Ok.yc(ok:(X.V7 E).Ok):X.Ok :=
 ⟨ok.mod,ok.kind,ok.glob,ok.blt,ok.above,ok.inj,ok.has,ok.fu,ok.hd,ok.frames,ok.nL,ok.rT,ok.bs,ok.lD,ok.ji,ok.jG,ok.H9,ok.lN⟩
theorem Inv.V7(I:Inv X pins Z H s)(E:Value->Shared->Prop):Inv (X.V7 E) pins Z H s:=⟨I.ok.V7 E,I.os,I.bare,I.base,I.loc,I.cell,I.free,I.dH,I.pin,I.bz,I.len⟩
theorem Inv.yc(I:Inv (X.V7 E) pins Z H s):Inv X pins Z H s:=⟨I.ok.yc,I.os,I.bare,I.base,I.loc,I.cell,I.free,I.dH,I.pin,I.bz,I.len⟩
section
variable{st:Stmt}{rest:List Stmt}{t u:TS}
def Cs:TS:=λD Z H=>D.nx Z H
def OJ(t u:TS):TS:=λD Z H=>t { D with nx:=u D } Z H
theorem Mj:ic X [] Cs:=λ_ _ Z H _ I h=>iU ⟨Z,H,I,h⟩
theorem Wv(h1:PS X st t)(h2:ic X rest u):ic X (st::rest) (OJ t u):=by
 intro pins s Z H D I h;refine wpAny_execs_cons (cb (h1 pins s Z H { D with nx:=u D } I h) λf s1 q=>?_);cases f with
 |next =>
  obtain⟨bD,H',I',q⟩:=q;exact h2 pins s1 bD H' D I' q
 |ret v=>exact q
 |brk=>exact q
 |cont=>exact q
theorem Mh:PS X (.Pass pos) Cs:=λ_ _ Z H _ I h=>wpAny_Pass ⟨Z,H,I,h⟩
theorem Inv.quiet(I:Inv X pins Z H s):interactive X.env=false:=by simp[interactive,I.ok.kind]
def QI(te:TE):TS:=λD Z H=>te Z H λ_ H1=>D.nx Z H1
theorem Mg(he:PE X e te)(hs:swapsWith e none pos.line X.env=pure false:=by rfl):PS X (.Expr e pos) (QI te):=by
 intro pins s Z H D I h;exact wpAny_Expr_any (cb (he pins s Z H _ I h) λv s1 ⟨x,H1,I1,r1,q1⟩=>⟨Z,H1,I1,q1⟩) I.quiet hs
def OI(te:TE):TS:=λD Z H=>te Z H D.rt
theorem JH(he:PE X e te):PS X (.Return (some e) pos) (OI te):=by
 intro pins s Z H D I h;exact wpAny_Return_some (cb (he pins s Z H _ I h) λv s1 ⟨x,H1,I1,r1,q1⟩=>⟨x,Z,H1,I1,r1,q1⟩)
def QL:TS:=λD _ H=>D.rt .aX H
theorem Mi:PS X (.Return none pos) QL:=λ_ _ Z H _ I h=>wpAny_Return_none ⟨.aX,Z,H,I,rfl,h⟩
def OC(c:TT)(t u:TS):TS:=λD Z H=>c Z H λb H1=>if b=true then t D Z H1 else u D Z H1
theorem Qp{a b:List Stmt}{tc:TT}(hc:PT X c tc)(ha:ic X a t)(hb:ic X b u):PS X (.If c a b pos) (OC tc t u):=by
 intro pins s Z H D I h;refine wpAny_If (cb (hc pins s Z H _ I h) λd s1 ⟨H1,I1,q1⟩=>?_);cases d with
 |true=>exact ha pins s1 Z H1 D I1 q1
 |false=>exact hb pins s1 Z H1 D I1 q1
end
noncomputable abbrev TG:=V->St->Hp->(St->Hp->Prop)->Prop
noncomputable abbrev nC:=List V->St->Hp->(St->Hp->Prop)->Prop
def PG(X:Cx)(target:Expr)(t:TG):Prop :=
 ∀(pins:List (Addr×Obj)) (s:Shared) (Z:St) (H:Hp) (v:V) (u:Value) (Q:St->Hp->Prop),Inv X pins Z H s->RelV v u->t v Z H Q ->
  wpAny (model X.prog X.w) X.A (assign target X.env u) (λ_ s'=>∃bD H',Inv X pins bD H' s'/\Q bD H') X.xe s
def tj(X:Cx)(ts:List Expr)(t:nC):Prop :=
 ∀(pins:List (Addr×Obj)) (s:Shared) (Z:St) (H:Hp) (vs:List V) (us:List Value) (Q:St->Hp->Prop),Inv X pins Z H s->Vals vs us->t vs Z H Q ->
  wpAny (model X.prog X.w) X.A (assignInOrder ((assignEach ts X.env).map (·.2)) us) (λ_ s'=>∃bD H',Inv X pins bD H' s'/\Q bD H') X.xe s
noncomputable abbrev xX:=V->V->V->Hp->(Hp->Prop)->Prop
def xW(X:Cx)(t:xX):Prop :=
 ∀(pins:List (Addr×Obj)) (s:Shared) (Z:St) (H:Hp) (o i v:V) (ov iv u:Value) (Q:Hp->Prop),Inv X pins Z H s->RelV o ov->RelV i iv->RelV v u->t o i v H Q ->
  wpAny (model X.prog X.w) X.A (setItem ov iv u) (λ_ s'=>∃H',Inv X pins Z H' s'/\Q H') X.xe s
noncomputable abbrev zW:=V->V->Hp->VK->Prop
def FR(X:Cx)(op:Operator)(t:zW):Prop :=
 ∀(pins:List (Addr×Obj)) (s:Shared) (Z:St) (H:Hp) (x y:V) (v u:Value) (Q:VK),Inv X pins Z H s->RelV x v->RelV y u->t x y H Q ->
  wpAny (model X.prog X.w) X.A (inplaceOp op v u) (EP X pins Z Q) X.xe s
def pT(i:Nat):TG:=λv Z H Q=>Q (Z.set i (some v)) H
theorem Fm(hN:X.N.Nodup)(hi:X.N[i]?=some x)(hx:Loc X.env.scope x)(hf:X.fn x=true\/X.env.scope.names.lookup x=some .local:=by first|exact .inl rfl|exact .inr rfl|assumption):PG X (.Name x pos) (pT i):=by
 intro pins s Z H v u Q I r h;exact wpAny_assign_Name (P5 I hN hi hx r (λs' I'=>⟨_,H,I',h⟩) hf)
def CC:nC:=λvs Z H Q=>vs=[]/\Q Z H
def BY(t:TG)(u:nC):nC:=λvs Z H Q=>∃v r,vs=v::r/\t v Z H λbD H'=>u r bD H' Q
theorem Mc:tj X [] CC:=by
 intro pins s Z H vs us Q I r h;obtain⟨e,h⟩:=h;subst e;cases r;exact assignInOrder_nil ⟨Z,H,I,h⟩
theorem Wn{t:TG}{u:nC}(h1:PG X e t)(h2:tj X es u)(hs:(assignEach (e::es) X.env).map (·.2)=assign e X.env::(assignEach es X.env).map (·.2):=by rfl):tj X (e::es) (BY t u):=by
 intro pins s Z H vs us Q I r h;obtain⟨v,vr,e1,h⟩:=h;subst e1;cases r with
 |cons r rr =>
  rw[hs];refine tD (cb (h1 pins s Z H _ _ _ I r h) λ_ s1 aV=>?_);obtain⟨gP,H1,I1,q1⟩:=aV;exact h2 pins s1 gP H1 _ _ Q I1 rr q1
def NA(K:PySem.W.Frag)(n:Nat)(t:nC):TG:=λv Z H Q=>∃a xs,v=.ref a/\gD K H a xs/\xs.length=n/\t xs Z H Q
theorem JA{t:nC}{n:Nat}(hc:X.calm=true)(h:tj X es t)(hn:(assignEach es X.env).length=n:=by rfl)(et:(assignEach es X.env).findIdx? (·.1)=none:=by rfl):PG X (.Tuple es k pos) (NA X.K n t):=by
 intro pins s Z H v u Q I r hw;obtain⟨a,xs,e1,hq,hl,hw⟩:=hw;subst e1;cases r;obtain⟨aN,rv,ht,hz⟩:=I.tuple hq;refine assign_Tuple_tuple (I.ok.hd hc) ht (by simp[hn,<- hl,rv.length]) et λh' hx=>?_;have I1:Inv X pins Z H { s with heap:=h' }:=I.kept (t':=s.toks) λb o e=>hx b o (aI (ao e)) e;exact h pins _ Z H xs _ Q I1 (by simpa using rv) hw
def Nz(to ti:TE)(t:xX):TG:=λv Z H Q=>to Z H λo H1=>ti Z H1 λi H2=>t o i v H2 λH3=>Q Z H3
theorem Jz{o i:Expr}{to ti:TE}{t:xX}(ho:PE X o to)(hi:PE X i ti)(hs:xW X t)(ha:∀ v,assign (.Subscript o i pos) X.env v=(do
   let ov <- holding [v] (eval o X.env)
   let iv <- holding [v,ov] (eval i X.env)
   standAt pos
   holding [v,ov,iv] (setItem ov iv v)
   release [v,ov,iv] []):=by intro _;rfl):PG X (.Subscript o i pos) (Nz to ti t):=by
 intro pins s Z H v u Q I r h;rw[ha];refine aa (bA (cb (ho pins s Z H _ I h) λov s1 aV=>?_));obtain⟨x,H1,I1,r1,q1⟩:=aV;refine aa (bA (cb (hi pins s1 Z H1 _ I1 q1) λiv s2 aV=>?_));obtain⟨y,H2,I2,r2,q2⟩:=aV;refine aa (dz (aa (bA (cb (hs pins s2 Z H2 x y v ov iv u _ I2 r1 r2 r q2) λ_ s3 ⟨H3,I3,q3⟩=>?_))));exact wpAny_release ⟨Z,H3,I3,q3⟩
def sk(te:TE)(g:TG):TS:=λD Z H=>te Z H λx H1=>g x Z H1 D.nx
theorem EA{g:TG}(he:PE X e te)(hg:PG X tg g)(hs:swapsWithSole [tg] e pos.line X.env=pure false:=by rfl)(hw:swappedStores [tg] e X.env=pure none:=by rfl)(h1:(assignEach [tg] X.env).map (·.2)=[assign tg X.env]:=by rfl):PS X (.Assign [tg] e pos) (sk te g):=by
 intro pins s Z H D I h;refine wpAny_Assign_stores (cb (he pins s Z H _ I h) λv s1 aV=>?_) hs hw;obtain⟨x,H1,I1,r1,q1⟩:=aV;rw[h1];exact cb (hg pins s1 Z H1 x v _ I1 r1 q1) λ_ s2 q=>q
theorem EB(hN:X.N.Nodup)(hi:X.N[i]?=some x)(hx:Loc X.env.scope x)(he:PE X e te)(hs:swapsWith e (some (.Name x pos')) pos.line X.env=pure false:=by rfl)(hf:X.fn x=true\/X.env.scope.names.lookup x=some .local:=by first|exact .inl rfl|exact .inr rfl|assumption) :
  PS X (.Assign [.Name x pos'] e pos) (sk te (pT i)):=by
 intro pins s Z H D I h;refine wpAny_Assign_Name (cb (he pins s Z H _ I h) λv s1 aV=>?_) hs;obtain⟨y,H1,I1,r1,q1⟩:=aV;exact P5 I1 hN hi hx r1 (λs2 I2=>⟨_,H1,I2,q1⟩) hf
def OG(i j:Nat)(ta:TA):TS:=λD Z H=>ta Z H λvs H1=>∃v w,vs=[v,w]/\D.nx ((Z.set i (some v)).set j (some w)) H1
theorem JG{y:Str}{a b:Expr}{ta:TA}{px py pt:Pos}{kt k2 mV}(hc:X.calm=true)(hN:X.N.Nodup)(hi:X.N[i]?=some x)(hj:X.N[j]?=some y)(hZ:i≠j)(hx:X.env.scope.names.lookup x=some .local)(hy:X.env.scope.names.lookup y=some .local)(ha:PA X [a,b] ta)(hw:swappedStores [.Tuple [.Name x px,.Name y py] kt pt] (.Tuple [a,b] k2 mV) X.env=pure (some [x,y]))(hs:swapsWithSole [.Tuple [.Name x px,.Name y py] kt pt] (.Tuple [a,b] k2 mV) pos.line X.env=pure false:=by rfl) :
  PS X (.Assign [.Tuple [.Name x px,.Name y py] kt pt] (.Tuple [a,b] k2 mV) pos) (OG i j ta):=by
 intro pins s Z H D I h;rw[exec_Assign_arm];refine aa (dz ?_);rw[hs];refine aa (ah ?_);rw[aB (by decide)];refine aa (Tuple_ (cb (ha _ pins s Z H _ I h) λus s1 aV=>?_));obtain⟨vs,H1,I1,r1,q1⟩:=aV;obtain⟨v,w,e1,q1⟩:=q1;subst e1;obtain⟨u1,u2,rfl,rv,eO⟩:∃u1 u2,us=[u1,u2]/\RelV v u1/\RelV w u2:=by
  cases r1 with
  |cons p q =>
   cases q with
   |cons p' q' =>
    cases q';exact⟨_,_,rfl,p,p'⟩
 refine bG ?_ (by show 2<=sizeLine;decide);have I2:Inv X pins Z H1 { s1 with heap:=s1.heap.push { cls:=.type "tuple",data:=.seq [u1,u2].toArray } }:=I1.kept (t':=s1.toks) λb o e=>ai _ e;rw[hw];refine aa (ah ?_);show wpAny (model X.prog X.w) X.A (do rule "assign.swapped-stores";let items <- unpackItems (.ref s1.heap.objs.size) 2 none;assignInOrder [λv=>bindName X.env y v,λv=>bindName X.env x v] items.reverse;pure Flow.next) _ _ _;refine aa (eI (aa (unpackItems_tuple (items:=#[u1,u2]) (I.ok.hd hc) (IsTup.new s1.heap _) λh' vX=>?_)));have I3:=I2.kept (h':=h') (t':=s1.toks) λb o e=>vX b o (aI (ao e)) e;show wpAny _ _ (assignInOrder [λv=>bindName X.env y v,λv=>bindName X.env x v] [u2,u1] >>= λ_=>pure Flow.next) _ _ _;refine aa (tD (wpAny_bindName (P5 I3 hN hj (.inl hy) eO (λs2 I4=>?_) (.inr hy))));refine tD (wpAny_bindName (P5 I4 hN hi (.inl hx) rv (λs3 I5=>assignInOrder_nil (ah ?_)) (.inr hx)));rw[List.set_comm _ _ (ba hZ)] at I5;exact⟨_,H1,I5,q1⟩
def Oy(i:Nat)(te:TE)(ti:zW):TS:=λD Z H=>∃x,Z[i]?=some (some x)/\te Z H λy H1=>ti x y H1 λz H2=>D.nx (Z.set i (some z)) H2
theorem JD{op:Operator}{ti:zW}(hN:X.N.Nodup)(hi:X.N[i]?=some x)(hx:Loc X.env.scope x)(he:PE X e te)(ho:FR X op ti)(hf:X.fn x=true\/X.env.scope.names.lookup x=some .local:=by first|exact .inl rfl|exact .inr rfl|assumption) :
  PS X (.AugAssign (.Name x pos') op e pos) (Oy i te ti):=by
 intro pins s Z H D I h;obtain⟨v,e1,h⟩:=h;obtain⟨m,hn,hl⟩:=I.loc;have qk:sY X.env.scope x:=by rcases hx with k|k;exact .inl k;exact .inr (.inl k)
 obtain⟨u,r,l⟩:=hl i x v hi e1 qk;refine wpAny_AugAssign_Name ?_;have go:wpAny (model X.prog X.w) X.A (eval e X.env) (λw eZ=>wpAny (model X.prog X.w) X.A (inplaceOp op u w) (λr dZ=>wpAny (model X.prog X.w) X.A (storeName X.env x r) (λ_=>SP X pins D .next) X.xe dZ) X.xe eZ) X.xe s:=by
  refine cb (he pins s Z H _ I h) λw s1 aV=>?_;obtain⟨y,H1,I1,r1,q1⟩:=aV;refine cb (ho pins s1 Z H1 v y u w _ I1 r r1 q1) λz s2 aV=>?_;obtain⟨zv,H2,I2,r2,q2⟩:=aV;exact P5 I2 hN hi hx r2 (λs3 I3=>⟨_,H2,I3,q2⟩) hf
 rcases l with⟨hk,hm⟩|⟨hk,c,hc,jP⟩
 ·exact wpAny_loadName_local I.ok.kind hk hn hm go
 ·rcases hk with hk|hk
  ·exact wpAny_loadName_cell I.ok.kind hk hc jP go
  ·rcases hx with k|k
   ·have:X.env.scope.names.lookup x=some .free:=hk;rw[k] at this;cases this
   ·have:X.env.scope.names.lookup x=some .free:=hk;rw[k] at this;cases this
def Kx(c:TT)(tb:TS):TS:=λD Z H=>∃W:Nat->St->Hp->Prop,(∃m,W m Z H)/\∀m Z H,W m Z H ->
 c Z H λb H1=>if b=true then ∃N:St->Hp->Prop,(∀bD H',N bD H'->∃m',m'<m/\W m' bD H')/\tb { D with nx:=N,ct:=N,bk:=D.nx } Z H1 else D.nx Z H1
theorem Wu{tc:TT}{tb:TS}(hp:PassesOwn (model X.prog X.w) X.A X.env X.xe)(hc:PT X c tc)(hb:ic X body tb):PS X (.While c body [] pos) (Kx tc tb):=by
 intro pins s Z H D I h;obtain⟨W,⟨m0,w0⟩,turn⟩:=h;refine wpAny_While (codeAny_whileLoop (λn s'=>∃bD H',Inv X pins bD H' s'/\W n bD H') ?_ m0 ⟨Z,H,I,w0⟩);rintro n s1 ⟨gP,H1,I1,w1⟩;refine dq hp (cb (hc pins s1 gP H1 _ I1 (turn n gP H1 w1)) λb s2 ⟨H2,I2,q2⟩=>?_);cases b with
 |true =>
  obtain⟨N,hN,q2⟩:=q2;rw[aJ rfl];refine dq hp (cb (hb pins s2 gP H2 _ I2 q2) λf s3 q3=>?_);cases f with
  |next =>
   obtain⟨gH,H3,I3,n3⟩:=q3;obtain⟨m',hm,w3⟩:=hN gH H3 n3;exact⟨m',hm,gH,H3,I3,w3⟩
  |cont =>
   obtain⟨gH,H3,I3,n3⟩:=q3;obtain⟨m',hm,w3⟩:=hN gH H3 n3;exact⟨m',hm,gH,H3,I3,w3⟩
  |brk=>exact q3
  |ret v=>exact q3
 |false =>
  rw[aB bu];exact iU ⟨gP,H2,I2,q2⟩
structure It where
 go:Nat->Hp->Prop
 nJ:Nat->Hp->V->Hp->Prop
 stop:Nat->Hp->Prop
def A4(X:Cx)(pins:List (Addr×Obj))(H:Hp)(b:Addr):Prop :=
 H b=none/\b≠X.env.locals/\b∉X.fs/\(b∈X.ex\/X.cR.heap.objs.size<=b)/\(∀x c,X.env.cells.lookup x=some c->c≠b)/\∀p∈X.pn++pins,p.1≠b
theorem Inv.nz(I:Inv X pins Z H s)(hb:s.heap.objs.size<=b)(hn:H' b=none):A4 X pins H' b:=by
 refine⟨hn,bU (aq I.lt hb),I.sX hb,.inr (aL I.sz hb),λx c e z=>?_,λp hp z=>?_⟩
 ·obtain⟨v,q⟩:=I.cell x c e;exact absurd (aq q.lt (by rw[z];exact hb)) (aZ _)
 ·exact absurd (aq (ao (I.pin p hp).1) (by rw[z];exact hb)) (aZ _)
structure Turn(P:Program)(w:World)(K:PySem.W.Frag)(tg:Expr)(J:It)(fp:List Addr)(it:Addr)(tn:Nat->Heap->Prop):Prop where
 mem:it∈fp
 obj:∀i h,tn i h->∀b∈fp,∃o,h.get? b=some o/\∀v,o.data≠.cell v
 keep:∀i h h',tn i h->(∀b∈fp,∀o,h.get? b=some o->h'.get? b=some o)->tn i h'
 item:∀(X:Cx),X.prog=P->X.w=w->X.K=K->X.calm=true->∀(i:Nat) (pins:List (Addr×Obj)) (s:Shared) (Z:St) (H:Hp) (E:Value->Shared->Prop),Inv X pins Z H s->(∀b∈fp,A4 X pins H b)->tn i s.heap->J.go i H ->
  wpAny (model P w) X.A (pyNext (.ref it)) (λr s1=>∃ u,r=some u /\
   wpAny (model P w) X.A (letOwnedTupleGo tg (.ref it) u) (λ_ s2=>∃ x H',Inv X pins Z H' s2/\RelV x u/\J.nJ i H x H'/\tn (i + 1) s2.heap/\∀ b ∈ fp,H' b=none) E s1) E s
 done:∀(X:Cx),X.prog=P->X.w=w->X.K=K->X.calm=true->∀(i:Nat) (pins:List (Addr×Obj)) (s:Shared) (Z:St) (H:Hp) (E:Value->Shared->Prop),Inv X pins Z H s->(∀b∈fp,A4 X pins H b)->tn i s.heap->J.stop i H ->
  wpAny (model P w) X.A (pyNext (.ref it)) (λr s1=>r=none/\Inv X pins Z H s1) E s
 self:∀(A:Around) (i:Nat) (s:Shared) (Q:Value->Shared->Prop) (E:Value->Shared->Prop),tn i s.heap->Q (.ref it) s->wpAny (model P w) A (pyIter (.ref it)) Q E s
noncomputable abbrev TI:=St->Hp->(It->Hp->Prop)->Prop
def FT(X:Cx)(pins:List (Addr×Obj))(Z:St)(tg:Expr)(R:It->Hp->Prop)(qK:Value)(s2:Shared):Prop :=
 ∃(it:Addr) (fp:List Addr) (tn:Nat->Heap->Prop) (J:It) (H':Hp),qK=.ref it/\Inv X pins Z H' s2/\Turn X.prog X.w X.K tg J fp it tn/\tn 0 s2.heap/\(∀b∈fp,A4 X pins H' b)/\R J H'
def PI(X:Cx)(tg iter:Expr)(wi:TI):Prop :=
 ∀(pins:List (Addr×Obj)) (s:Shared) (Z:St) (H:Hp) (R:It->Hp->Prop),Inv X pins Z H s->wi Z H R ->
  wpAny (model X.prog X.w) X.A (eval iter X.env) (λv s1=>wpAny (model X.prog X.w) X.A (pyIter v) (FT X pins Z tg R) X.xe s1) X.xe s
theorem uq{it:Addr}{o:Obj}{n:String}{vs:Array Value}{Q:Unit->Shared->Prop}(ho:s.heap.get? it=some o)(hc:o.cls=.type n)(hd:o.data=.fields vs)(hn:["enumerate","zip","dict_itemiterator","dict_reverseitemiterator","odict_iterator","itertools.zip_longest","itertools.pairwise"].contains n=false)(hQ:Q () s):wpAny M A (letOwnedTupleGo tg (.ref it) u) Q E s:=by
  unfold letOwnedTupleGo;cases tg<;>first
    |exact ah hQ
    | (cases u <;> first
        |exact ah hQ
        | (refine aa (wpAny_load ho ?_)
           rw[hc,hd];show wpAny M A (if(["enumerate","zip","dict_itemiterator","dict_reverseitemiterator","odict_iterator","itertools.zip_longest","itertools.pairwise"].contains n&&vs[0]?==some (rawInt _))=true then _ else _) Q E s;rw[aB (by intro h;rw[hn,mf] at h;cases h)];exact ah hQ))
def zZ(K:PySem.W.Frag)(a:Addr):It :=
 ⟨λi H=>∃xs x,eW K H a xs/\xs[i]?=some x,λi H x H'=>H'=H/\∀xs,eW K H a xs->xs[i]?=some x,λi H=>∃xs,eW K H a xs/\xs.length<=i⟩
def zY(K:PySem.W.Frag)(a:Addr):It :=
 ⟨λi H=>∃xs x,gD K H a xs/\xs[i]?=some x,λi H x H'=>H'=H/\∀xs,gD K H a xs->xs[i]?=some x,λi H=>∃xs,gD K H a xs/\xs.length<=i⟩
def tq(lo:Int)(n:Nat):It:=⟨λi _=>i<n,λi H x H'=>H'=H/\x=.int (lo+i),λi _=>n<=i⟩
theorem Tr(a it:Addr):Turn P w K tg (zZ K a) [it] it (λi h=>h.IsListIter it a i) where
 mem:=by simp
 obj:=λi h st b hb=>by
  have e:b=it:=by simpa using hb
  subst e;obtain⟨o,e,c,d⟩:=st;exact⟨o,e,λv z=>by rw[d] at z;cases z⟩
 keep:=λi h h' st k=>st.at λo e=>k it (by simp) o e
 item:=by
  intro X hP hw hK hc i pins s Z H E I hf st hg;subst hP hw hK;obtain⟨xs,x,hq,hx⟩:=hg;obtain⟨aN,rv,p,hz⟩:=I.list hq;obtain⟨u,hu,ru⟩:=rv.get hx;obtain⟨f0,f1,f2,f3,f4,f5⟩:=hf it (by simp);refine wpAny_pyNext_list_item st p.isList (x:=u) (by simpa using hu) λh' kc sb=>?_;have I1:Inv X pins Z H { s with heap:=h' }:=I.turned (t':=s.toks) (λb o hb e=>(sb.2 b hb).trans e) f0 f1 f3 f4 f5;obtain⟨o,e,c,d⟩:=id kc;exact⟨u,rfl,uq (s:={ s with heap:=h' }) e c d (by decide) ⟨x,H,I1,ru,⟨rfl,λys hy=>by rw[I.yL hy hq];exact hx⟩,kc,λb hb=>(hf b hb).1⟩⟩
 done:=by
  intro X hP hw hK hc i pins s Z H E I hf st hg;subst hP hw hK;obtain⟨xs,hq,hx⟩:=hg;obtain⟨aN,rv,p,hz⟩:=I.list hq;obtain⟨f0,f1,f2,f3,f4,f5⟩:=hf it (by simp);have hl:=rv.length;exact wpAny_pyNext_list_end (I.ok.hd hc) st p.isList (by simp;omega) λh' eb=>⟨rfl,I.turned (t':=s.toks) (λb o hb e=>eb b o hb e) f0 f1 f3 f4 f5⟩
 self:=λ_ _ _ _ _ st h=>wpAny_pyIter_listiter st h
theorem Ut(a it:Addr):Turn P w K tg (zY K a) [it] it (λi h=>h.IsTupleIter it a i) where
 mem:=by simp
 obj:=λi h st b hb=>by
  have e:b=it:=by simpa using hb
  subst e;obtain⟨o,e,c,d⟩:=st;exact⟨o,e,λv z=>by rw[d] at z;cases z⟩
 keep:=λi h h' st k=>st.at λo e=>k it (by simp) o e
 item:=by
  intro X hP hw hK hc i pins s Z H E I hf st hg;subst hP hw hK;obtain⟨xs,x,hq,hx⟩:=hg;obtain⟨aN,rv,p,hz⟩:=I.tuple hq;obtain⟨u,hu,ru⟩:=rv.get hx;obtain⟨f0,f1,f2,f3,f4,f5⟩:=hf it (by simp);refine wpAny_pyNext_tuple_item st (show s.heap.IsTuple a aN.toArray from p) (x:=u) (by simpa using hu) λh' kc sb=>?_;have I1:Inv X pins Z H { s with heap:=h' }:=I.turned (t':=s.toks) (λb o hb e=>(sb.2 b hb).trans e) f0 f1 f3 f4 f5;obtain⟨o,e,c,d⟩:=id kc;exact⟨u,rfl,uq (s:={ s with heap:=h' }) e c d (by decide) ⟨x,H,I1,ru,⟨rfl,λys hy=>by rw[I.To hy hq];exact hx⟩,kc,λb hb=>(hf b hb).1⟩⟩
 done:=by
  intro X hP hw hK hc i pins s Z H E I hf st hg;subst hP hw hK;obtain⟨xs,hq,hx⟩:=hg;obtain⟨aN,rv,p,hz⟩:=I.tuple hq;obtain⟨f0,f1,f2,f3,f4,f5⟩:=hf it (by simp);have hl:=rv.length;exact wpAny_pyNext_tuple_end (I.ok.hd hc) st (show s.heap.IsTuple a aN.toArray from p) (by simp;omega) λh' eb=>⟨rfl,I.turned (t':=s.toks) (λb o hb e=>eb b o hb e) f0 f1 f3 f4 f5⟩
 self:=λ_ _ _ _ _ st h=>wpAny_pyIter_tupleiter st h
theorem Ur(it:Addr)(lo:Int)(n:Nat):Turn P w K tg (tq lo n) [it] it (λi h=>IsRangeIter h it (lo+(i:Nat)*1) ((n:Int)-(i:Nat)) 1) where
 mem:=by simp
 obj:=λi h st b hb=>by
  have e:b=it:=by simpa using hb
  subst e;exact ⟨_,st,λv z=>by
   have z':Data.fields _=Data.cell v:=z;cases z'⟩
 keep:=λi h h' st k=>k it (by simp) _ st
 item:=by
  intro X hP hw hK hc i pins s Z H E I hf st hg;subst hP hw hK;obtain⟨f0,f1,f2,f3,f4,f5⟩:=hf it (by simp);have W:=Walks.range (prog:=X.prog) (w:=X.w) (I.ok.hd hc) it lo 1 n;refine W.item i s _ _ hg st λv h' tk hv kc kk=>?_;obtain⟨t,rfl⟩:=hv;have I1:Inv X pins Z H { s with heap:=h',toks:=tk }:=I.turned (λb o hb e=>kk b o (by simpa using hb) e) f0 f1 f3 f4 f5;refine⟨_,rfl,uq (s:={ s with heap:=h',toks:=tk }) (n:="range_iterator") kc rfl rfl (by decide) ⟨.int (lo+i),H,I1,⟨t,?_⟩,⟨rfl,rfl⟩,kc,λb hb=>(hf b hb).1⟩⟩;rw[Int.mul_one]
 done:=by
  intro X hP hw hK hc i pins s Z H E I hf st hg;subst hP hw hK;obtain⟨f0,f1,f2,f3,f4,f5⟩:=hf it (by simp);exact wpAny_pyNext_range_end (I.ok.hd hc) st (by have:n<=i:=hg;omega) λh' eb=>⟨rfl,I.turned (t':=s.toks) (λb o hb e=>eb b o hb e) f0 f1 f3 f4 f5⟩
 self:=λ_ _ _ _ _ st h=>wpAny_pyIter_rangeiter st h
theorem CI{R:It->Hp->Prop}{lo hi:Int}{t u v:Tok}{tk:Nat}(I:Inv X pins Z H s)(h1:-(2 ^ 62)<=lo)(h2:lo<2 ^ 62)(h3:-(2 ^ 62)<=hi)(h4:hi<2 ^ 62)(q:R (tq lo (hi-lo).toNat) H):wpAny (model X.prog X.w) X.A (pyIter (.ref s.heap.objs.size)) (FT X pins Z tg R) E { s with heap:=s.heap.push { cls:=.type "range",data:=.fields #[.int lo t,.int hi u,.int 1 v] },toks:=tk }:=by
 refine wpAny_pyIter_range (IsRange.new ..) (small_one h1 h2 h3 h4) ?_;have I1:Inv X pins Z H { s with heap:=s.heap.push { cls:=.type "range",data:=.fields #[.int lo t,.int hi u,.int 1 v] },toks:=tk }:=I.kept λb o e=>ai _ e;refine ⟨(s.heap.push { cls:=.type "range",data:=.fields #[.int lo t,.int hi u,.int 1 v] }).objs.size,[(s.heap.push { cls:=.type "range",data:=.fields #[.int lo t,.int hi u,.int 1 v] }).objs.size],_,_,H,rfl,
  I1.kept (t':=tk) λb o e=>ai _ e,Ur _ lo (hi - lo).toNat,?_,λb hb=>?_,q⟩
 ·have e1:lo+((0:Nat):Int)*1=lo:=by simp
  have e2:(((hi-lo).toNat:Nat):Int)-((0:Nat):Int)=Builtin.Range.rangeSize lo hi 1:=by rw[rangeSize_one];split<;>omega
  show IsRangeIter _ _ (lo+((0:Nat):Int)*1) ((((hi-lo).toNat:Nat):Int)-((0:Nat):Int)) 1;rw[e1,e2];exact au _ rfl
 ·have e:b=(s.heap.push { cls:=.type "range",data:=.fields #[.int lo t,.int hi u,.int 1 v] }).objs.size:=by simpa using hb
  subst e;exact I1.nz (aj _) (I1.bz.fresh (aj _))
def Pp(ta:TA):TI:=λZ H R=>ta Z H λvs H1=>∃j:Int,vs=[.int j]/\-(2 ^ 62)<=j/\j<2 ^ 62/\R (tq 0 j.toNat) H1
def Pq(ta:TA):TI:=λZ H R=>ta Z H λvs H1=>∃i j:Int,vs=[.int i,.int j]/\(-(2 ^ 62)<=i/\i<2 ^ 62/\-(2 ^ 62)<=j/\j<2 ^ 62)/\R (tq i (j-i).toNat) H1
theorem SW{a:Expr}{ta:TA}(hg:Gl X "range")(hm:X.mg "range"=none)(ha:PA X [a] ta)(hs:starEach [a] X.env=[(false,eval a X.env)]:=by rfl):PI X tg (.Call (.Name "range" p) [a] [] pos) (Pp ta):=by
 intro pins s Z H R I h;refine Call_ (K6 I hg hm boot_range (bx (cb (ha pos pins s Z H _ I h) λus s1 aV=>?_) hs rfl));obtain⟨vs,H1,I1,r1,q1⟩:=aV;obtain⟨j,e,q1,q2,q⟩:=q1;subst e;cases r1 with
 |cons r rr =>
  cases rr;obtain⟨t,rfl⟩:=r;exact call_range_1 (CI I1 (by omega) (by omega) q1 q2 (by simpa using q))
theorem SX{a b:Expr}{ta:TA}(hg:Gl X "range")(hm:X.mg "range"=none)(ha:PA X [a,b] ta)(hs:starEach [a,b] X.env=[(false,eval a X.env),(false,eval b X.env)]:=by rfl)(hX:starEach [b] X.env=[(false,eval b X.env)]:=by rfl) :
  PI X tg (.Call (.Name "range" p) [a,b] [] pos) (Pq ta):=by
 intro pins s Z H R I h;refine Call_ (K6 I hg hm boot_range (bx (cb (ha pos pins s Z H _ I h) λus s1 aV=>?_) (by rw[hs,hX]) (by rw[hX];rfl)));obtain⟨vs,H1,I1,r1,q1⟩:=aV;obtain⟨i,j,e,⟨q1,q2,q3,q4⟩,q⟩:=q1;subst e;cases r1 with
 |cons r rr =>
  cases rr with
  |cons r' rr =>
   cases rr;obtain⟨t,rfl⟩:=r;obtain⟨t',rfl⟩:=r';exact call_range_2 (CI I1 q1 q2 q3 q4 q)
def OB(wi:TI)(g:TG)(tb:TS):TS:=λD Z H=>wi Z H λJ H1=>∃W:Nat->Nat->St->Hp->Prop,(∃m,W 0 m Z H1)/\∀i m Z H,W i m Z H ->
 (J.stop i H/\D.nx Z H)\/(J.go i H/\∃N:St->Hp->Prop,(∀bD H',N bD H'->∃m',m'<m/\W (i+1) m' bD H')/\∀x H',J.nJ i H x H'->g x Z H' λcw H2=>tb { D with nx:=N,ct:=N,bk:=D.nx } cw H2)
def U7(fp:List Addr)(h:Heap):List (Addr×Obj):=fp.filterMap λb=>(h.get? b).map λo=>(b,o)
theorem O3{o:Obj}(hb:b∈fp)(e:h.get? b=some o):(b,o)∈U7 fp h:=jc.mpr ⟨b,hb,by rw[e];rfl⟩
theorem SJ{p:Addr×Obj}(hp:p∈U7 fp h):p.1∈fp/\h.get? p.1=some p.2:=by
 obtain⟨b,hb,e⟩:=jc.mp hp;cases q:h.get? b with
 |none=>rw[q] at e;cases e
 |some o =>
  rw[q] at e;have e':(b,o)=p:=aG e;subst e';exact⟨hb,q⟩
theorem Inv.pinned(I:Inv X pins Z H s)(hf:∀b∈fp,A4 X pins H b)(ho:∀b∈fp,∃o,s.heap.get? b=some o/\∀v,o.data≠.cell v):Inv X (pins++U7 fp s.heap) Z H s :=
 I.J5 λp hp=>(eX.mp hp).elim (λz=>I.pin p (bf _ z)) λz=>by
  obtain⟨hb,e⟩:=SJ z;obtain⟨f0,f1,f2,_⟩:=hf p.1 hb;obtain⟨o,e',d⟩:=ho p.1 hb;rw[e] at e';cases e';exact⟨e,f0,f1,f2,d⟩
theorem Inv.yR{pl:List (Addr×Obj)}(I:Inv X (pins++pl) Z H s):Inv X pins Z H s:=I.J5 λp hp=>I.pin p (bf _ (dw _ hp))
theorem JF{iter:Expr}{wi:TI}{g:TG}{tb:TS}(hp:PassesOwn (model X.prog X.w) X.A X.env X.xe)(hc:X.calm=true)(hi:PI X tg iter wi)(hg:PG X tg g)(hb:ic X body tb)(hs:∀x,foldedSetIterable iter X.env x=pure x:=by intro _;rfl):PS X (.For tg iter body [] pos) (OB wi g tb):=by
 intro pins s Z H D I h;refine wpAny_For (cb (hi pins s Z H _ I h) λv s1 h1=>cb h1 λqK s2 h2=>?_) hs;obtain⟨it,fp,tn,J,H2,e,I2,T,jf,f2,W,⟨m0,w0⟩,turn⟩:=h2;subst e;have nM:∀{H':Hp},(∀b∈fp,H' b=none)->∀b∈fp,A4 X pins H' b:=λhn b hb=>⟨hn b hb,(f2 b hb).2⟩
 refine codeAny_forLoop_any (λn s'=>∃i bD H',Inv X pins bD H' s'/\tn i s'.heap/\(∀b∈fp,H' b=none)/\W i n bD H') ?_ m0 ⟨0,Z,H2,I2,jf,λb hb=>(f2 b hb).1,w0⟩;rintro n s3 ⟨i,gH,H3,I3,mT,nt,w3⟩;rcases turn i n gH H3 w3 with⟨stop,qn⟩|⟨go,N,hN,step⟩
 ·refine dq hp (cb (T.done X rfl rfl rfl hc i pins s3 gH H3 X.xe I3 (nM nt) mT stop) λr s4 ⟨hr,I4⟩=>?_);subst hr;exact iU ⟨gH,H3,I4,qn⟩
 ·refine dq hp (cb (T.item X rfl rfl rfl hc i pins s3 gH H3 X.xe I3 (nM nt) mT go) λr s4 ⟨u,hr,h4⟩=>?_);subst hr;refine dq hp (cb h4 λ_ s5 aV=>?_);obtain⟨x,H5,I5,r5,y5,kM,rS⟩:=aV;have tu:=I5.pinned (nM rS) (T.obj _ _ kM);refine dq hp (cb (hg _ s5 gH H5 x u _ tu r5 (step x H5 y5)) λ_ s6 aV=>?_);obtain⟨jX,H6,I6,q6⟩:=aV;refine dq hp (cb (hb _ s6 jX H6 _ I6 q6) λf s7 q7=>?_);have again:∀{kI:St} {H7:Hp},Inv X (pins++U7 fp s5.heap) kI H7 s7->N kI H7->∃m,m<n/\∃i bD H',Inv X pins bD H' s7/\tn i s7.heap/\(∀b∈fp,H' b=none)/\W i m bD H':=λ{kI H7} I7 n7=>by
   obtain⟨m',hm,w7⟩:=hN kI H7 n7;refine⟨m',hm,i+1,kI,H7,I7.yR,T.keep _ _ _ kM λb hb o e=>(I7.pin (b,o) (bf _ (bf _ (O3 hb e)))).1,λb hb=>?_,w7⟩;obtain⟨o,e,d⟩:=T.obj _ _ kM b hb;exact(I7.pin (b,o) (bf _ (bf _ (O3 hb e)))).2.1
  cases f with
  |next=>obtain⟨kI,H7,I7,n7⟩:=q7;exact again I7 n7
  |cont=>obtain⟨kI,H7,I7,n7⟩:=q7;exact again I7 n7
  |brk=>obtain⟨kI,H7,I7,q7⟩:=q7;exact⟨kI,H7,I7.yR,q7⟩
  |ret v=>obtain⟨x7,kI,H7,I7,r7,q7⟩:=q7;exact⟨x7,kI,H7,I7.yR,r7,q7⟩
noncomputable abbrev R2:=V->V->Hp->VK->Prop
def eP(X:Cx)(f:Value->Value->Sem Value)(r:R2):Prop :=
 ∀(pins:List (Addr×Obj)) (s:Shared) (Z:St) (H:Hp) (x y:V) (v u:Value) (Q:VK),Inv X pins Z H s->RelV x v->RelV y u->r x y H Q ->
  wpAny (model X.prog X.w) X.A (f v u) (EP X pins Z Q) X.xe s
def vj(X:Cx)(f:Value->Sem Value)(r:V->Hp->VK->Prop):Prop :=
 ∀(pins:List (Addr×Obj)) (s:Shared) (Z:St) (H:Hp) (x:V) (v:Value) (Q:VK),Inv X pins Z H s->RelV x v->r x H Q ->
  wpAny (model X.prog X.w) X.A (f v) (EP X pins Z Q) X.xe s
def m5(X:Cx)(f:Value)(r:List V->Hp->VK->Prop):Prop :=
 ∀(pins:List (Addr×Obj)) (s:Shared) (Z:St) (H:Hp) (xs:List V) (us:List Value) (Q:VK),Inv X pins Z H s->Vals xs us->r xs H Q ->
  wpAny (model X.prog X.w) X.A (call f us) (EP X pins Z Q) X.xe s
def Nd(X:Cx)(r:V->Hp->(Bool->Hp->Prop)->Prop):Prop :=
 ∀(pins:List (Addr×Obj)) (s:Shared) (Z:St) (H:Hp) (x:V) (v:Value) (Q:Bool->Hp->Prop),Inv X pins Z H s->RelV x v->r x H Q ->
  wpAny (model X.prog X.w) X.A (truthy v) (TP X pins Z Q) X.xe s
def oZ(r:R2)(ta tb:TE):TE:=λZ H Q=>ta Z H λx H1=>tb Z H1 λy H2=>r x y H2 Q
def Gi(r:V->Hp->VK->Prop)(ta:TE):TE:=λZ H Q=>ta Z H λx H1=>r x H1 Q
def rI(C:Int->Int->Prop)(g:Int->Int->V):R2:=λx y H Q=>∃i j,x=.int i/\y=.int j/\C i j/\Q (g i j) H
def kx(g:Int->Int->V):R2:=λx y H Q=>∃i j,x=.int i/\y=.int j/\Q (g i j) H
def rU(g:Int->V):V->Hp->VK->Prop:=λx H Q=>∃i,x=.int i/\Q (g i) H
section
variable{a b:Expr}
theorem zL(ha:PE X a ta)(hb:PE X b tb){R:V->V->Hp->Prop}(I:Inv X pins Z H s)(h:ta Z H λx H1=>tb Z H1 λy H2=>R x y H2){f:Value->Value->Sem Value}(hf:∀v u s2 x y H2,Inv X pins Z H2 s2->RelV x v->RelV y u->R x y H2->wpAny (model X.prog X.w) X.A (f v u) Q X.xe s2) :
  wpAny (model X.prog X.w) X.A (eval a X.env) (λv bI=>wpAny (model X.prog X.w) X.A (eval b X.env) (λu eZ=>wpAny (model X.prog X.w) X.A (f v u) Q X.xe eZ) X.xe bI) X.xe s:=by
 refine cb (ha pins s Z H _ I h) λv s1 aV=>?_;obtain⟨x,H1,I1,r1,q1⟩:=aV;refine cb (hb pins s1 Z H1 _ I1 q1) λu s2 aV=>?_;obtain⟨y,H2,I2,r2,q2⟩:=aV;exact hf v u s2 x y H2 I2 r1 r2 q2
theorem Ql{op:Operator}(ho:eP X (binaryOp op) r)(ha:PE X a ta)(hb:PE X b tb):PE X (.BinOp a op b pos) (oZ r ta tb):=by
 intro pins s Z H Q I h;exact wpAny_BinOp (zL ha hb I h λv u s2 x y H2 I2 rx ry q=>ho pins s2 Z H2 x y v u Q I2 rx ry q)
theorem Qn{op:UnaryOp}{r:V->Hp->VK->Prop}(ho:vj X (unaryOp op) r)(ha:PE X a ta):PE X (.UnaryOp op a pos) (Gi r ta):=by
 intro pins s Z H Q I h;exact UnaryOp_ (cb (ha pins s Z H _ I h) λv s1 ⟨x,H1,I1,r1,q1⟩=>ho pins s1 Z H1 x v Q I1 r1 q1)
theorem qu{f:Value->Value->Sem Value}{C:Int->Int->Prop}{g:Int->Int->Int}(rule:∀(i j:Int) (t u:Tok) (s:Shared) (Q:Value->Shared->Prop) (E:Value->Shared->Prop),C i j->Q (.int (g i j) s.toks) { s with toks:=s.toks+1 }->wpAny (model X.prog X.w) X.A (f (.int i t) (.int j u)) Q E s) :
  eP X f (rI C λi j=>.int (g i j)):=by
 intro pins s Z H x y v u Q I rx ry h;obtain⟨i,j,rfl,rfl,hc,q⟩:=h;obtain⟨t,rfl⟩:=rx;obtain⟨t',rfl⟩:=ry;exact rule i j t t' s _ _ hc ⟨.int (g i j),H,I.tok _,⟨_,rfl⟩,q⟩
theorem pN{f:Value->Value->Sem Value}{g:Int->Int->Int}(rule:∀(i j:Int) (t u:Tok) (s:Shared) (Q:Value->Shared->Prop) (E:Value->Shared->Prop),Q (.int (g i j) s.toks) { s with toks:=s.toks+1 }->wpAny (model X.prog X.w) X.A (f (.int i t) (.int j u)) Q E s) :
  eP X f (kx λi j=>.int (g i j)):=by
 intro pins s Z H x y v u Q I rx ry h;obtain⟨i,j,rfl,rfl,q⟩:=h;obtain⟨t,rfl⟩:=rx;obtain⟨t',rfl⟩:=ry;exact rule i j t t' s _ _ ⟨.int (g i j),H,I.tok _,⟨_,rfl⟩,q⟩
theorem vf{f:Value->Value->Sem Value}{g:Int->Int->Bool}(rule:∀(i j:Int) (t u:Tok) (s:Shared) (Q:Value->Shared->Prop) (E:Value->Shared->Prop),Q (.bool (g i j)) s->wpAny (model X.prog X.w) X.A (f (.int i t) (.int j u)) Q E s) :
  eP X f (kx λi j=>.bl (g i j)):=by
 intro pins s Z H x y v u Q I rx ry h;obtain⟨i,j,rfl,rfl,q⟩:=h;obtain⟨t,rfl⟩:=rx;obtain⟨t',rfl⟩:=ry;exact rule i j t t' s _ _ ⟨.bl (g i j),H,I,rfl,q⟩
def xU(i j:Int):Prop:=0<j/\j<1073741824
def mK(i j:Int):Prop:=0<=j/\j<=1000000/\i.natAbs<2 ^ 64
def oI(i j:Int):Prop:=(-(2 ^ 64)<i/\i<2 ^ 64)\/(-(2 ^ 64)<j/\j<2 ^ 64)
theorem oI.ok{i j:Int}(h:oI i j):IntMulOk i j:=by
 rcases h with⟨h1,h2⟩|⟨h1,h2⟩
 ·exact .of_left (intBits_le_64 h1 h2)
 ·exact .of_right (intBits_le_64 h1 h2)
theorem Jd:eP X (binaryOp .Add) (kx λi j=>.int (i+j)):=pN λ_ _ _ _ _ _ _ q=>add_int q
theorem Jn:eP X (binaryOp .Sub) (kx λi j=>.int (i-j)):=pN λ_ _ _ _ _ _ _ q=>sub_int q
theorem Jj:eP X (binaryOp .Mult) (rI oI λi j=>.int (i*j)):=qu λ_ _ _ _ _ _ _ hc q=>mul_int q hc.ok
theorem LM:eP X (binaryOp .FloorDiv) (rI xU λi j=>.int (i / j)):=qu λi j _ _ _ _ _ hc q=>by
 have h1:(0:Int)<j:=hc.1;have h2:j<1073741824:=hc.2;exact floordiv_int (by omega) (by rw[Int.fdiv_eq_ediv_of_nonneg i (by omega)];exact q) (.inl (PyProof.noPylong_small (by omega)))
theorem Ji:eP X (binaryOp .Mod) (rI (λ_ j=>0<j) λi j=>.int (i % j)):=qu λi j _ _ _ _ _ hc q=>by
 have h1:(0:Int)<j:=hc;exact mod_int' (by omega) (by rw[Int.fmod_eq_emod_of_nonneg i (by omega)];exact q)
theorem Jk:eP X (binaryOp .Pow) (rI mK λi j=>.int (i ^ j.toNat)):=qu λ_ _ _ _ _ _ _ hc q=>pow_int_small hc.1 hc.2.1 hc.2.2 q
theorem Jm:eP X (binaryOp .LShift) (rI mK λi j=>.int (i*2 ^ j.toNat)):=qu λ_ _ _ _ _ _ _ hc q=>lshift_int_small hc.1 hc.2.1 hc.2.2 q
theorem Je:eP X (binaryOp .BitAnd) (kx λi j=>.int (Builtin.bitAnd i j)):=pN λ_ _ _ _ _ _ _ q=>and_int q
theorem Qg:eP X (binaryOp .BitOr) (kx λi j=>.int (Builtin.bitOr i j)):=pN λ_ _ _ _ _ _ _ q=>or_int q
theorem Ll:eP X (inplaceOp .Add) (kx λi j=>.int (i+j)):=pN λ_ _ _ _ _ _ _ q=>iadd_int q
theorem Ln:eP X (inplaceOp .Sub) (kx λi j=>.int (i-j)):=pN λ_ _ _ _ _ _ _ q=>isub_int q
theorem Gh{f:Value->Sem Value}{g:Int->Int}(rule:∀(i:Int) (t:Tok) (s:Shared) (Q:Value->Shared->Prop) (E:Value->Shared->Prop),Q (.int (g i) s.toks) { s with toks:=s.toks+1 }->wpAny (model X.prog X.w) X.A (f (.int i t)) Q E s) :
  vj X f (rU λi=>.int (g i)):=by
 intro pins s Z H x v Q I rx h;obtain⟨i,rfl,q⟩:=h;obtain⟨t,rfl⟩:=rx;exact rule i t s _ _ ⟨.int (g i),H,I.tok _,⟨_,rfl⟩,q⟩
theorem KI:vj X (unaryOp .USub) (rU λi=>.int (-i)):=Gh λ_ _ _ _ _ q=>neg_int q
end
def BD:V->V->Bool
 |.aX,.aX=>true|.aX,.int _=>true|.int _,.aX=>true|.aX,.bl _=>true|.bl _,.aX=>true|.aX,.str _=>true|.str _,.aX=>true
 |.int _,.int _=>true|.bl _,.bl _=>true|.str _,.str _=>true|.jR _,.jR _=>true
 |.int _,.str _=>true|.str _,.int _=>true|.bl _,.str _=>true|.str _,.bl _=>true
 |_,_=>false
def Gx:R2:=λx y H Q=>BD x y=true/\Q (.bl (decide (x=y))) H
def Gw:R2:=λx y H Q=>BD x y=true/\Q (.bl (!decide (x=y))) H
theorem uP{i j:Int}:decide (V.int i=V.int j)=(i==j):=by
 rw[bL];simp
theorem uE{i j:Bool}:decide (V.bl i=V.bl j)=(i==j):=by
 rw[bL];simp
theorem uQ{i j:Str}:decide (V.str i=V.str j)=(i==j):=by
 rw[bL];simp
theorem ER{i j:Array UInt8}:decide (V.jR i=V.jR j)=(i.toList==j.toList):=by
 rw[bL];cases i;cases j;simp
section
variable{a b:Expr}{tc:TE}
theorem j2{Q:VK}{k k':Bool}(I:Inv X pins Z H s)(q:Q (.bl k) H)(e:k=k'):EP X pins Z Q (.bool k') s:=by
 subst e;exact⟨.bl k,H,I,rfl,q⟩
theorem zo:eP X (compareOp .Eq) Gx:=by
 intro pins s Z H x y v u Q I rx ry h;obtain⟨hs,q⟩:=h;cases x with
 |aX =>
  cases rx;cases y with
  |aX=>cases ry;exact PySem.EqNone.eq_none_none (j2 I q (by simp))
  |bl j=>cases ry;exact PySem.EqNone.eq_none_bool (j2 I q (by simp))
  |int j=>obtain⟨t',rfl⟩:=ry;exact PySem.EqNone.eq_none_int (j2 I q (by simp))
  |str j=>obtain⟨t',rfl⟩:=ry;exact PySem.EqNone.eq_none_str (j2 I q (by simp))
  |_=>exact absurd (show false=true from hs) Bool.false_ne_true
 |bl i =>
  cases rx;cases y with
  |aX=>cases ry;exact PySem.EqNone.eq_bool_none (j2 I q (by simp))
  |bl j=>cases ry;exact eq_bool (j2 I q uE)
  |str j=>obtain⟨t',rfl⟩:=ry;exact PySem.EqMixed.eq_bool_str (j2 I q (by simp))
  |_=>exact absurd (show false=true from hs) Bool.false_ne_true
 |int i =>
  obtain⟨t,rfl⟩:=rx;cases y with
  |aX=>cases ry;exact PySem.EqNone.eq_int_none (j2 I q (by simp))
  |int j=>obtain⟨t',rfl⟩:=ry;exact eq_int (j2 I q uP)
  |str j=>obtain⟨t',rfl⟩:=ry;exact PySem.EqMixed.eq_int_str (j2 I q (by simp))
  |_=>exact absurd (show false=true from hs) Bool.false_ne_true
 |str i =>
  obtain⟨t,rfl⟩:=rx;cases y with
  |aX=>cases ry;exact PySem.EqNone.eq_str_none (j2 I q (by simp))
  |bl j=>cases ry;exact PySem.EqMixed.eq_str_bool (j2 I q (by simp))
  |int j=>obtain⟨t',rfl⟩:=ry;exact PySem.EqMixed.eq_str_int (j2 I q (by simp))
  |str j=>obtain⟨t',rfl⟩:=ry;exact eq_str (j2 I q uQ)
  |_=>exact absurd (show false=true from hs) Bool.false_ne_true
 |jR i =>
  obtain⟨t,rfl⟩:=rx;cases y with
  |jR j=>obtain⟨t',rfl⟩:=ry;exact PySem.W.eq_bytes (j2 I q ER)
  |_=>exact absurd (show false=true from hs) Bool.false_ne_true
 |_=>cases y<;>exact absurd (show false=true from hs) bu
theorem zp:eP X (compareOp .NotEq) Gw:=by
 intro pins s Z H x y v u Q I rx ry h;obtain⟨hs,q⟩:=h;cases x with
 |aX =>
  cases rx;cases y with
  |aX=>cases ry;exact PySem.EqNone.ne_none_none (j2 I q (by simp))
  |bl j=>cases ry;exact PySem.EqNone.ne_none_bool (j2 I q (by simp))
  |int j=>obtain⟨t',rfl⟩:=ry;exact PySem.EqNone.ne_none_int (j2 I q (by simp))
  |str j=>obtain⟨t',rfl⟩:=ry;exact PySem.EqNone.ne_none_str (j2 I q (by simp))
  |_=>exact absurd (show false=true from hs) Bool.false_ne_true
 |bl i =>
  cases rx;cases y with
  |aX=>cases ry;exact PySem.EqNone.ne_bool_none (j2 I q (by simp))
  |bl j=>cases ry;exact ne_bool (j2 I q (congrArg not uE))
  |str j=>obtain⟨t',rfl⟩:=ry;exact PySem.EqMixed.ne_bool_str (j2 I q (by simp))
  |_=>exact absurd (show false=true from hs) Bool.false_ne_true
 |int i =>
  obtain⟨t,rfl⟩:=rx;cases y with
  |aX=>cases ry;exact PySem.EqNone.ne_int_none (j2 I q (by simp))
  |int j=>obtain⟨t',rfl⟩:=ry;exact ne_int (j2 I q (congrArg not uP))
  |str j=>obtain⟨t',rfl⟩:=ry;exact PySem.EqMixed.ne_int_str (j2 I q (by simp))
  |_=>exact absurd (show false=true from hs) Bool.false_ne_true
 |str i =>
  obtain⟨t,rfl⟩:=rx;cases y with
  |aX=>cases ry;exact PySem.EqNone.ne_str_none (j2 I q (by simp))
  |bl j=>cases ry;exact PySem.EqMixed.ne_str_bool (j2 I q (by simp))
  |int j=>obtain⟨t',rfl⟩:=ry;exact PySem.EqMixed.ne_str_int (j2 I q (by simp))
  |str j=>obtain⟨t',rfl⟩:=ry;exact ne_str (j2 I q (congrArg not uQ))
  |_=>exact absurd (show false=true from hs) Bool.false_ne_true
 |jR i =>
  obtain⟨t,rfl⟩:=rx;cases y with
  |jR j=>obtain⟨t',rfl⟩:=ry;exact PySem.W.ne_bytes (j2 I q (congrArg not ER))
  |_=>exact absurd (show false=true from hs) Bool.false_ne_true
 |_=>cases y<;>exact absurd (show false=true from hs) bu
theorem Qf:eP X (compareOp .Lt) (kx λi j=>.bl (decide (i<j))):=vf λ_ _ _ _ _ _ _ q=>lt_int q
theorem Qe:eP X (compareOp .LtE) (kx λi j=>.bl (decide (i<=j))):=vf λ_ _ _ _ _ _ _ q=>le_int q
theorem Qc:eP X (compareOp .Gt) (kx λi j=>.bl (decide (j<i))):=vf λ_ _ _ _ _ _ _ q=>gt_int q
theorem Qb:eP X (compareOp .GtE) (kx λi j=>.bl (decide (j<=i))):=vf λ_ _ _ _ _ _ _ q=>ge_int q
theorem Jh:eP X (compareOp .Is) (λx y H Q=>y=.aX/\Q (.bl (decide (x=.aX))) H):=by
 intro pins s Z H x y v u Q I rx ry h;obtain⟨rfl,q⟩:=h;cases ry;refine is_none_gen (j2 I q ?_);cases x<;>first
  |(cases rx;rfl)
  |(obtain⟨t,rfl⟩:=rx;rfl)
theorem LO:eP X (compareOp .IsNot) (λx y H Q=>y=.aX/\Q (.bl (!decide (x=.aX))) H):=by
 intro pins s Z H x y v u Q I rx ry h;obtain⟨rfl,q⟩:=h;cases ry;refine isnot_none_gen (j2 I q ?_);cases x<;>first
  |(cases rx;rfl)
  |(obtain⟨t,rfl⟩:=rx;rfl)
theorem Fj(ho:eP X (compareOp op) r)(ha:PE X a ta)(hb:PE X b tb)(hm:behindInMarks op b=false):PE X (.Compare a [op] [b] pos) (oZ r ta tb):=by
 intro pins s Z H Q I h;exact wpAny_Compare1 (zL ha hb I h λv u s2 x y H2 I2 rx ry q=>ho pins s2 Z H2 x y v u Q I2 rx ry q) hm
def zu(t:TE):TT:=λZ H Q=>t Z H λx H'=>∃k,x=.bl k/\Q k H'
theorem Fo(ho:eP X (compareOp op) r)(ha:PE X a ta)(hb:PE X b tb)(hm:behindInMarks op b=false):PT X (.Compare a [op] [b] pos) (zu (oZ r ta tb)):=by
 intro pins s Z H Q I h;refine wpAny_isTrue_Compare1 (cb (ha pins s Z H _ I h) λv s1 ⟨x,H1,I1,r1,q1⟩=>cb (hb pins s1 Z H1 _ I1 q1) λu s2 ⟨y,H2,I2,r2,q2⟩ =>
  cb (ho pins s2 Z H2 x y v u _ I2 r1 r2 q2) λc s3 ⟨z,H3,I3,r3,k,e,q3⟩=>?_) hm
 subst e;cases r3;exact cj ⟨H3,I3,q3⟩
def ya(r r':R2)(ta tb tc:TE):TE:=λZ H Q=>ta Z H λx H1=>tb Z H1 λy H2=>r x y H2 λz H3=>∃k,z=.bl k /\
 (if k=true then tc Z H3 λw' H4=>r' y w' H4 Q else Q (.bl false) H3)
theorem Wf{gC:CmpOp}{r':R2}(ho:eP X (compareOp op) r)(kZ:eP X (compareOp gC) r')(ha:PE X a ta)(hb:PE X b tb)(hc:PE X c tc)(hm:lastMarks [op,gC] [b,c]=false:=by with_unfolding_all rfl):PE X (.Compare a [op,gC] [b,c] pos) (ya r r' ta tb tc):=by
 intro pins s Z H Q I h;refine Compare_chain (cb (ha pins s Z H _ I h) λv s1 ⟨x,H1,I1,r1,q1⟩=>chain_link (cb (hb pins s1 Z H1 _ I1 q1) λu s2 ⟨y,H2,I2,r2,q2⟩ =>
  cb (ho pins s2 Z H2 x y v u _ I2 r1 r2 q2) λd s3 ⟨z,H3,I3,r3,k,e,q3⟩=>?_)) hm
 subst e;cases r3;refine cj ?_;cases k with
 |false=>exact ite_ff ⟨.bl false,H3,I3,rfl,q3⟩
 |true=>exact ite_tt (chain_last (cb (hc pins s3 Z H3 _ I3 q3) λw' s4 ⟨z',H4,I4,r4,q4⟩=>kZ pins s4 Z H4 y z' u w' Q I4 r2 r4 q4))
theorem Ww{gC:CmpOp}{r':R2}(ho:eP X (compareOp op) r)(kZ:eP X (compareOp gC) r')(ha:PE X a ta)(hb:PE X b tb)(hc:PE X c tc)(hm:lastMarks [op,gC] [b,c]=false:=by with_unfolding_all rfl):PT X (.Compare a [op,gC] [b,c] pos) (zu (ya r r' ta tb tc)):=by
 intro pins s Z H Q I h;refine isTrue_chain (cb (ha pins s Z H _ I h) λv s1 ⟨x,H1,I1,r1,q1⟩=>test_link (cb (hb pins s1 Z H1 _ I1 q1) λu s2 ⟨y,H2,I2,r2,q2⟩ =>
  cb (ho pins s2 Z H2 x y v u _ I2 r1 r2 q2) λd s3 ⟨z,H3,I3,r3,k,e,q3⟩=>?_)) hm
 subst e;cases r3;refine cj ?_;cases k with
 |false =>
  obtain⟨k',e',q'⟩:=q3;cases e';exact ite_ff ⟨H3,I3,q'⟩
 |true =>
  refine ite_tt (test_last (cb (hc pins s3 Z H3 _ I3 q3) λw' s4 ⟨z',H4,I4,r4,q4⟩=>cb (kZ pins s4 Z H4 y z' u w' _ I4 r2 r4 q4) λd' s5 aV=>?_));obtain⟨z2,H5,I5,r5,k2,e2,q5⟩:=aV;subst e2;cases r5;exact cj ⟨H5,I5,q5⟩
def xY(K:PySem.W.Frag)(x:V)(H:Hp)(k:Bool):Prop :=
 match x with
 |.aX=>k=false
 |.bl b=>k=b
 |.int i=>k=(i != 0)
 |.str y=>y.length<=sizeLine/\k=((y.length:Int) != 0)
 |.jR y=>y.size<=sizeLine/\k=((y.size:Int) != 0)
 |.ref p=>(∃xs,eW K H p xs/\k=!xs.isEmpty)\/(∃xs,gD K H p xs/\k=!xs.isEmpty)\/∃kvs,H p=some (.dK kvs)/\k=!kvs.isEmpty
 |_=>False
theorem TK{κ:Type}{kvs:List (κ×V)}{vs:List (κ×Value)}(r:KV kvs vs):(!vs.isEmpty)=!kvs.isEmpty:=by
 cases r<;>rfl
theorem DJ{aN:List Value}(r:Vals xs aN):(!aN.toArray.isEmpty)=!xs.isEmpty:=by
 cases r<;>simp
theorem Q6:(sizeLine:Nat)<2 ^ 63:=by rw[jw];decide
theorem KC:Nd X (λx H Q=>∃k,xY X.K x H k/\Q k H):=by
 intro pins s Z H x v Q I rx h;obtain⟨k,e,q⟩:=h;have hl:=Q6;have hs:sizeLine=16777216:=jw;cases x with
 |aX =>
  cases rx;have e':k=false:=e;subst e';exact truthy_none ⟨H,I,q⟩
 |bl b =>
  cases rx;have e':k=b:=e;subst e';exact cj ⟨H,I,q⟩
 |int i =>
  obtain⟨t,rfl⟩:=rx;have e':k=(i != 0):=e;subst e';exact PySem.P.truthy_int ⟨H,I,q⟩
 |str y =>
  obtain⟨t,rfl⟩:=rx;obtain⟨hy,e'⟩:y.length<=sizeLine/\k=((y.length:Int) != 0):=e;subst e';exact PySem.P.truthy_str (by omega) ⟨H,I.tok _,q⟩
 |jR y =>
  obtain⟨t,rfl⟩:=rx;obtain⟨hy,e'⟩:y.size<=sizeLine/\k=((y.size:Int) != 0):=e;subst e';exact PySem.W.truthy_bytes (by omega) ⟨H,I.tok _,q⟩
 |ref p =>
  cases rx;have e':(∃xs,eW X.K H p xs/\k=!xs.isEmpty)\/(∃xs,gD X.K H p xs/\k=!xs.isEmpty)\/∃kvs,H p=some (.dK kvs)/\k=!kvs.isEmpty:=e;rcases e' with⟨xs,hx,e'⟩|⟨xs,hx,e'⟩|⟨kvs,hx,e'⟩
  ·subst e';obtain⟨aN,r,pl,hz⟩:=I.list hx;have hlen:=r.length;exact wpAny_truthy_list pl.isList (by simp only[List.size_toArray];omega) ⟨H,I.tok _,by rw[DJ r];exact q⟩
  ·subst e';obtain⟨aN,r,pl,hz⟩:=I.tuple hx;have hlen:=r.length;exact truthy_tuple pl (by simp only[List.size_toArray];omega) ⟨H,I.tok _,by rw[DJ r];exact q⟩
  ·subst e';obtain⟨hz,hS,vs,r,m⟩:kvs.length<=sizeLine/\(p==sysModules)=false/\∃vs,KV kvs vs/\s.heap.DictOf (l9 X.prog X.w) p vs:=I.bz p _ hx;have hlen:kvs.length=vs.length:=kr r;exact wpAny_truthy_dict hS m (by omega) ⟨H,I.tok _,by rw[TK r];exact q⟩
 |_=>exact(show False from e).elim
theorem Wx(ha:PE X a ta)(he:∀whole,isTrue a X.env whole=(do let v <- whole;standAt a.pos;holding [v] (truthy v))) :
  PT X a (λZ H Q=>ta Z H λx H'=>∃k,xY X.K x H' k/\Q k H'):=by
 intro pins s Z H Q I h;exact isTrue_plain (cb (ha pins s Z H _ I h) λv s1 ⟨x,H1,I1,r1,q1⟩=>KC pins s1 Z H1 x v Q I1 r1 q1) (he _)
theorem Uh:eP X (binaryOp .Add) (λx y H Q=>∃i j,x=.str i/\y=.str j/\i.length+j.length<=sizeLine/\Q (.str (i++j)) H):=by
 intro pins s Z H x y v u Q I rx ry h;obtain⟨i,j,rfl,rfl,hz,q⟩:=h;obtain⟨t,rfl⟩:=rx;obtain⟨t',rfl⟩:=ry;exact add_str (λt' tk=>⟨.str (i++j),H,I.tok _,⟨_,rfl⟩,q⟩) hz
theorem vals1{x:V}(r:Vals [x] us):∃u,us=[u]/\RelV x u:=by
 cases r with
 |cons r1 r2=>cases r2;exact⟨_,rfl,r1⟩
theorem vals2{x y:V}(r:Vals [x,y] us):∃u w',us=[u,w']/\RelV x u/\RelV y w':=by
 cases r with
 |cons r1 r2 =>
  cases r2 with
  |cons r3 r4=>cases r4;exact⟨_,_,rfl,r1,r3⟩
theorem CY:m5 X (.type "int") (λxs H Q=>(∃i,xs=[.int i]/\Q (.int i) H)\/∃k,xs=[.bl k]/\Q (.int (if k then 1 else 0)) H):=by
 intro pins s Z H xs us Q I r h;rcases h with⟨i,rfl,q⟩|⟨k,rfl,q⟩
 ·obtain⟨u,rfl,t,rfl⟩:=vals1 r;exact call_int_int ⟨.int i,H,I,⟨_,rfl⟩,q⟩
 ·obtain⟨u,rfl,r1⟩:=vals1 r;cases r1;exact call_int_bool ⟨.int (if k then 1 else 0),H,I.tok _,⟨_,rfl⟩,q⟩
end
structure oK(h:Heap)(x dx C:Addr)(mA:Str->Option Value):Prop where
 obj:h.get? x=some (PySem.W.instObj C dx)
 ns:h.Ns1 dx mA
 ne:dx≠x
theorem Ds{mA:Str->Option Value}(n:h.Ns1 dx mA):∃od,h.get? dx=some od/\∀name,PySem.W.lookIn name od=some (mA name):=by
 obtain⟨o,es,ep,ho,hd,hk,_,hm⟩:=n;refine⟨o,ho,λname=>?_⟩;have e:=hm name;unfold nsFind findBy at e;rw[<- Array.find?_toList] at e;unfold PySem.W.lookIn;rw[hd];dsimp only;split
 ·rename_i y q;rw[q] at e;exact dM some e
 ·rename_i q;rw[q] at e;have a:es.toList.any (·.refKey)=false:=by
   rw[List.any_eq_false];intro y hy;obtain⟨z,t,mE⟩:=hk y (Array.mem_toList_iff.mp hy);simp[DictEntry.refKey,mE]
  have a':¬es.toList.any (·.refKey)=true:=by rw[a];exact bu
  rw[aB a'];exact dM some e
theorem oK.look{x:Addr}{mA:Str->Option Value}(I:oK h x dx C mA):∃od,PySem.W.InstAt h x (PySem.W.instObj C dx) C (some od)/\∀name,PySem.W.lookIn name od=some (mA name) :=
 let ⟨od,ho,hl⟩:=Ds I.ns
 ⟨od,⟨I.obj,rfl,rfl,ho⟩,hl⟩
section
variable{prog:Program}{x:Addr}{mA:Str->Option Value}{name:Str}{v:Value}
theorem get_map{expr:Bool}(X:K.In s.heap)(I:oK s.heap x dx C mA)(hg:PySem.W.plainGet K C name=true)(hh:PySem.W.hasDictIn K C=true)(ha:PySem.W.findIn K (.ref C) name=some none)(hv:mA name=some v)(vZ:PySem.W.handedIn v=true)(h:Q v { s with toks:=s.toks+1 }) :
  wpAny (model prog w) A (getAttr (.ref x) name expr) Q E s:=by
 obtain⟨od,J,hl⟩:=I.look;exact PySem.W.get_value X J (iF hg).1 (PySem.W.findObj_own hh ha rfl (by rw[hl,hv])) vZ h
theorem VF{pl:Sem Bool}{Q:Value×List Value->Shared->Prop}(X:K.In s.heap)(I:oK s.heap x dx C mA)(hg:PySem.W.plainGet K C name=true)(hf:PySem.W.findIn K (.ref C) name=some (some (.ref f)))(ht:PySem.W.isFn K (.ref f)=true)(hv:mA name=none)(h:Q (.ref f,[.ref x]) s) :
  wpAny (model prog w) A (getMethod (.ref x) name pl) Q E s:=by
 obtain⟨od,J,hl⟩:=I.look;exact PySem.W.method_fn X J (iF hg).1 (iF hg).2 hf (fC.mp ht) (by show(PySem.W.lookIn name od).map (·.isSome)=some false;rw[hl,hv];rfl) h
theorem MB{ns:List Str}{Q:Unit->Shared->Prop}(X:K.In s.heap)(I:oK s.heap x dx C mA)(hs:PySem.W.findIn K (.ref C) "__setattr__"=some (some (.builtin "object.__setattr__")))(hp:PySem.W.plainOver K C=true)(ht:PySem.W.takerIn K C name=some none)(hh:PySem.W.hasDictIn K C=true)(hw:PySem.Within mA ns)(hsz:ns.length<=sizeLine)(h:∀h',oK h' x dx C (λy=>if y=name then some v else mA y)->Heap.SameBut dx s.heap h'->Q () { s with heap:=h',toks:=s.toks+2 }) :
  wpAny (model prog w) A (setAttr (.ref x) name v) Q E s:=by
 obtain⟨od,J,hl⟩:=I.look;refine PySem.W.set_plain X J hs (PySem.W.osa_open (s:={ s with toks:=s.toks+1 }) (r:=none) X J hp ht λb=>?_);obtain⟨cd,hc,tX⟩:=PySem.W.any_some hh;have hx:s.heap.get? x=some ⟨.ref C,some dx,.plain,#[]⟩:=I.obj;refine aa (ah (aa (aa (wpAny_loadPart hx (aa (PySem.W.Looks.here (s:={ s with toks:=s.toks+1 }) (PySem.W.looks_clsIn X hc) ?_))))));rw[tX];refine ah (a:=some dx) (aa (ah (aa ?_)));refine wpAny_nsSet1 (s:={ s with toks:=s.toks+1 }) I.ns λh' mB hX=>?_;obtain⟨oD,XY,X',Hd,Hv,Hx⟩:=mB.count (PySem.Within.cons name v hw);refine aa (wpAny_lookBehind Hd (by rw[Hv];exact pastItsLine_dict (aL Hx (by rw[cE];omega))) ?_);exact ah (h _ ⟨(hX.2 _ (ba I.ne)).trans I.obj,mB,I.ne⟩ hX)
theorem VT{R:Result->Shared->Prop}{vs:List Value}{kw:List (Str×Value)}(X:K.In s.heap)(hm:PySem.W.makesIn K C=true)(hi:PySem.W.findIn K (.ref C) "__init__"=some (some (.ref f)))(hf:PySem.W.typeIn K (.ref f)=some (.type "function"))(h:codeAny (model prog w) (A.under (.builtin "type.__call__" ⟨.ref C :: vs,kw⟩)) (.call (.ref f) ⟨.ref (s.heap.objs.size + 1) :: vs,kw⟩) (PySem.W.InitBack (s.heap.objs.size + 1) R)
   { s with heap:=(s.heap.push PySem.W.emptyDict).push (PySem.W.instObj C s.heap.objs.size) }) :
  codeAny (model prog w) A (.call (.ref C) ⟨vs,kw⟩) R s:=by
 obtain⟨hh,g,d,t,os⟩:=s;exact PySem.W.make_core (PySem.W.makes_of X hm) (PySem.W.looks_findIn X hi) (λself=>PySem.W.bind_fn X self hf) (.inl rfl) h
end
def p8(f:Str)(v:V):List (Str×V)->List (Str×V)
 |[]=>[(f,v)]
 |(g,x)::r=>if g=f then(g,v)::r else(g,x)::p8 f v r
theorem DX(f g:Str)(v:V):∀fs:List (Str×V),(p8 f v fs).lookup g=if g=f then some v else fs.lookup g
 |[]=>by
  show List.lookup g [(f,v)]=_;by_cases h:g=f
  ·have hb:(g==f)=true:=fC.mpr h;simp only[List.lookup,hb,if_pos h]
  ·have hb:(g==f)=false:=cT.mpr h;simp only[List.lookup,hb,if_neg h]
 |(k,x)::r=>by
  have ih:=DX f g v r;rw[show p8 f v ((k,x)::r)=(if k=f then(k,v)::r else(k,x)::p8 f v r) from rfl];by_cases hk:k=f
  ·rw[aJ hk];by_cases h:g=k
   ·have hb:(g==k)=true:=fC.mpr h;simp only[List.lookup,hb,if_pos (h.trans hk)]
   ·have hb:(g==k)=false:=cT.mpr h;simp only[List.lookup,hb,if_neg (λe:g=f=>h (e.trans hk.symm))]
  ·rw[aB hk];by_cases h:g=k
   ·have hb:(g==k)=true:=fC.mpr h;simp only[List.lookup,hb,if_neg (λe:g=f=>hk (h.symm.trans e))]
   ·have hb:(g==k)=false:=cT.mpr h;simp only[List.lookup,hb];exact ih
theorem yW(f:Str)(v:V):∀fs:List (Str×V),f∈(p8 f v fs).map (·.1)/\∀g,g∈fs.map (·.1)->g∈(p8 f v fs).map (·.1)
 |[]=>⟨by simp[p8],λg h=>by simp at h⟩
 |(k,x)::r=>by
  obtain⟨i1,i2⟩:=yW f v r;rw[show p8 f v ((k,x)::r)=(if k=f then(k,v)::r else(k,x)::p8 f v r) from rfl];by_cases hk:k=f
  ·rw[aJ hk];subst hk;exact⟨by simp,λg h=>by simpa using h⟩
  ·rw[aB hk];refine⟨?_,λg h=>?_⟩
   ·rw[aW];exact bH _ i1
   ·rw[aW] at h ⊢;rcases ay.mp h with e|e
    ·exact ay.mpr (.inl e)
    ·exact bH _ (i2 g e)
theorem DW(f:Str)(v:V):∀fs:List (Str×V),(p8 f v fs).length<=fs.length+1
 |[]=>by simp[p8]
 |(k,x)::r=>by
  have ih:=DW f v r;rw[show p8 f v ((k,x)::r)=(if k=f then(k,v)::r else(k,x)::p8 f v r) from rfl];by_cases hk:k=f
  ·rw[aJ hk,cE,cE];omega
  ·rw[aB hk,cE,cE];omega
theorem A3.some_of{o:Option Value}(r:A3 (some v) o):∃u,o=some u/\RelV v u:=by
 cases o with
 |none=>exact(show False from r).elim
 |some u=>exact⟨u,rfl,r⟩
theorem A3.none_of{o:Option Value}(r:A3 none o):o=none:=by
 cases o with
 |none=>rfl
 |some u=>exact(show False from r).elim
theorem Sn(r:RelV v u):PySem.W.handedIn u=true:=by
 cases v with
 |aX=>cases (show u=Value.none from r);rfl
 |bl b=>cases (show u=Value.bool b from r);rfl
 |int i=>obtain⟨t,e⟩:=(show ∃t,u=Value.int i t from r);cases e;rfl
 |str x=>obtain⟨t,e⟩:=(show ∃t,u=Value.str x t from r);cases e;rfl
 |jR b=>obtain⟨t,e⟩:=(show ∃t,u=Value.bytes b t from r);cases e;rfl
 |ow b=>obtain⟨t,e⟩:=(show ∃t,u=Value.float b t from r);cases e;rfl
 |ref a=>cases (show u=Value.ref a from r);rfl
 |ty n=>cases (show u=Value.type n from r);rfl
section
variable{fs:List (Str×V)}
theorem uS(bz:fz P w H h)(e:H a=some (.ins C dx fs)):∃mA,oK h a dx C mA/\(∀f,A3 (fs.lookup f) (mA f))/\PySem.Within mA (fs.map (·.1))/\fs.length<=1000/\H dx=some (.own a):=by
 obtain⟨d,z,ne,ob,mA,n,r,q⟩:=(show k6 P w H h a (.ins C dx fs) from bz a _ e)
 exact⟨mA,⟨ob,n,ne⟩,r,q,z,d⟩
end
structure ie(K:PySem.W.Frag)(C:Addr):Prop where
 pg:PySem.W.plainGet K C Str.empty=true
 hd:PySem.W.hasDictIn K C=true
 po:PySem.W.plainOver K C=true
 sa:PySem.W.findIn K (.ref C) "__setattr__"=some (some (.builtin "object.__setattr__"))
theorem ie.get(c:ie K C)(f:Str):PySem.W.plainGet K C f=true:=c.pg
def u6(K:PySem.W.Frag)(C:Addr)(f:Str):Prop:=PySem.W.findIn K (.ref C) f=some none
theorem u6.QN{f:Str}(n:u6 K C f):PySem.W.takerIn K C f=some none:=by
 unfold PySem.W.takerIn;rw[show PySem.W.findIn K (.ref C) f=some none from n]
 rfl
structure Meth(K:PySem.W.Frag)(C:Addr)(m:Str)(f:Addr):Prop where
 at_:PySem.W.findIn K (.ref C) m=some (some (.ref f))
 fn:PySem.W.isFn K (.ref f)=true
 kp:PySem.W.keepIn K (.ref f)=true
section
variable{fs:List (Str×V)}{f:Str}
theorem DH{b:Bool}(I:Inv X pins Z H s)(e:H a=some (.ins C dx fs))(c:ie X.K C)(n:u6 X.K C f)(l:fs.lookup f=some v)(h:∀u s',Inv X pins Z H s'->RelV v u->Q u s'):wpAny (model X.prog X.w) A (getAttr (.ref a) f b) Q E s:=by
 obtain⟨mA,O,r,_,_,_⟩:=uS I.bz e;obtain⟨u,hu,ru⟩:=A3.some_of (v:=v) (o:=mA f) (by rw[<- l];exact r f);exact get_map I.fm O (c.get f) c.hd n hu (Sn ru) (h u _ (I.tok _) ru)
theorem DI{g:Addr}{pl:Sem Bool}{Q:Value×List Value->Shared->Prop}(I:Inv X pins Z H s)(e:H a=some (.ins C dx fs))(c:ie X.K C)(k:Meth X.K C m g)(l:fs.lookup m=none)(h:Q (.ref g,[.ref a]) s):wpAny (model X.prog X.w) A (getMethod (.ref a) m pl) Q E s:=by
 obtain⟨mA,O,r,_,_,_⟩:=uS I.bz e;have hn:mA m=none:=A3.none_of (by rw[<- l];exact r m);exact VF I.fm O (c.get m) k.at_ k.fn hn h
theorem DM{y:V}{Q:Unit->Shared->Prop}(I:Inv X pins Z H s)(e:H a=some (.ins C dx fs))(c:ie X.K C)(n:u6 X.K C f)(hl:fs.length<1000)(ry:RelV y u)(h:∀s',Inv X pins Z (upd H a (.ins C dx (p8 f y fs))) s'->Q () s'):wpAny (model X.prog X.w) A (setAttr (.ref a) f u) Q E s:=by
 obtain⟨mA,O,r,wi,_,ho⟩:=uS I.bz e;have hz:(fs.map (·.1)).length<=sizeLine:=by rw[av,jw];omega
 refine MB I.fm O c.sa c.po n.QN c.hd wi hz λh' O' sb=>h _ ?_;have hd:∃o,h'.get? dx=some o:=let ⟨o,_,_,e',_⟩:=O'.ns;⟨o,e'⟩
 refine I.write (x:=a) (e:=dx) (by rw[e];exact True.intro) (.inr ho) (λb q hb z=>(sb.2 b hb).trans z) hd ?_;refine⟨by rw[f7 O.ne];exact ho,?_,O.ne,O'.obj,_,O'.ns,λg=>?_,λg hg=>?_⟩
 ·have:=DW f y fs;omega
 ·show A3 ((p8 f y fs).lookup g) (if g=f then some u else mA g);rw[DX];by_cases q:g=f
  ·rw[aJ q,aJ q];exact ry
  ·rw[aB q,aB q];exact r g
 ·by_cases q:g=f
  ·rw[q];exact(yW f y fs).1
  ·refine(yW f y fs).2 g (wi g λz=>hg ?_);show(if g=f then some u else mA g)=none;rw[aB q];exact z
theorem Inv.made(I:Inv X pins Z H s):Inv X pins Z (upd (upd H s.heap.objs.size (.own (s.heap.objs.size+1))) (s.heap.objs.size+1) (.ins C s.heap.objs.size []))
  { s with heap:=(s.heap.push PySem.W.emptyDict).push (PySem.W.instObj C s.heap.objs.size) }:=by
 have e1:(s.heap.push PySem.W.emptyDict).get? s.heap.objs.size=some PySem.W.emptyDict:=au s.heap rfl;have e2:((s.heap.push PySem.W.emptyDict).push (PySem.W.instObj C s.heap.objs.size)).get? (s.heap.objs.size+1)=some (PySem.W.instObj C s.heap.objs.size):=by
  have:=au (s.heap.push PySem.W.emptyDict) (o:=PySem.W.instObj C s.heap.objs.size) rfl
  rwa [dO] at this
 have e3:(s.heap.push PySem.W.emptyDict).Ns s.heap.objs.size (λ_=>none):=⟨PySem.W.emptyDict,#[],_,e1,rfl,(λe he=>absurd he (by simp)),λ_=>rfl⟩
 have I1:=I.laid (a:=s.heap.objs.size) (o:=.own (s.heap.objs.size+1)) (h':=s.heap.push PySem.W.emptyDict) (t':=s.toks) (λb u q=>ai _ q) (aj _) ⟨_,e1⟩;refine I1.laid (a:=s.heap.objs.size+1) (o:=.ins C s.heap.objs.size []) (t':=s.toks) (λb u q=>ai _ q) (Nat.le_of_eq (dO _ _)) ?_;have ne:s.heap.objs.size≠s.heap.objs.size+1:=aI (dC _);refine⟨by rw[f7 ne,m6],bY _,ne,e2,λ_=>none,(Heap.Ns1.of_empty e3).at λo q=>ai _ q,λ_=>True.intro,λy hy=>absurd rfl hy⟩
theorem KW{prog:Program}{env:Env}(hb:attributeBase e f env (eval e env)=eval e env)(h:wpAny (model prog w) A (eval e env) (λo bI=>wpAny (model prog w) A (getAttr o f true) Q E bI) E s):wpAny (model prog w) A (eval (.Attribute e f pos) env) Q E s :=
 Attribute_any_ h (by rw[arm_eval_Attribute,hb])
end
def OA(K:PySem.W.Frag)(ta:TE)(f:Str):TE:=λZ H Q=>ta Z H λx H1=>∃a C dx fs v,x=.ref a/\H1 a=some (.ins C dx fs)/\ie K C/\u6 K C f/\fs.lookup f=some v/\Q v H1
def Ol(K:PySem.W.Frag)(ta tv:TE)(f:Str):TS:=λD Z H=>tv Z H λy H1=>ta Z H1 λx H2=>∃a C dx fs,x=.ref a/\H2 a=some (.ins C dx fs)/\ie K C/\u6 K C f/\fs.length<1000 /\
 D.nx Z (upd H2 a (.ins C dx (p8 f y fs)))
def xV(X:Cx)(op:Operator)(rd:V->V->Hp->VK->Prop):Prop :=
 ∀(pins:List (Addr×Obj)) (s:Shared) (Z:St) (H:Hp) (x y:V) (u v:Value) (Q:VK),Inv X pins Z H s->RelV x u->RelV y v->rd x y H Q->wpAny (model X.prog X.w) X.A (inplaceOp op u v) (EP X pins Z Q) X.xe s
def Mp(K:PySem.W.Frag)(ta tv:TE)(rd:V->V->Hp->VK->Prop)(f:Str):TS:=λD Z H=>ta Z H λx H1=>∃a C dx fs v,x=.ref a/\H1 a=some (.ins C dx fs)/\ie K C/\u6 K C f/\fs.lookup f=some v /\
 tv Z H1 λy H2=>rd v y H2 λz H3=>∃pE ia,H3 a=some (.ins C pE ia)/\ia.length<1000/\D.nx Z (upd H3 a (.ins C pE (p8 f z ia)))
section
variable{o value:Expr}{f:Str}{ql:Pos}{tv:TE}
theorem Jr(he:PE X e ta)(hb:attributeBase e f X.env (eval e X.env)=eval e X.env):PE X (.Attribute e f pos) (OA X.K ta f):=by
 intro pins s Z H Q I h;refine KW hb (cb (he pins s Z H _ I h) λu s1 aV=>?_);obtain⟨x,H1,I1,rx,a,C,dx,fs,v,ex,ea,c,n,l,q⟩:=aV;subst ex;obtain rfl:u=Value.ref a:=rx;exact DH I1 ea c n l λu' s2 I2 ru=>⟨v,H1,I2,ru,q⟩
theorem JE(ha:PE X o ta)(hv:PE X value tv)(hs:swapsWith value (some (.Attribute o f pos')) pos.line X.env=pure false):PS X (.Assign [.Attribute o f pos'] value pos) (Ol X.K ta tv f):=by
 intro pins s Z H D I h;refine plainObj_wpAny_Assign_Attribute (cb (hv pins s Z H _ I h) λu s1 ⟨y,H1,I1,ry,q⟩=>cb (ha pins s1 Z H1 _ I1 q) λov s2 aV=>?_) hs;obtain⟨x,H2,I2,rx,a,C,dx,fs,ex,ea,c,n,l,q2⟩:=aV;subst ex;obtain rfl:ov=Value.ref a:=rx;exact DM I2 ea c n l ry λs3 I3=>⟨Z,_,I3,q2⟩
theorem Tc{op:Operator}{rd:V->V->Hp->VK->Prop}(ha:PE X o ta)(hv:PE X value tv)(wg:xV X op rd):PS X (.AugAssign (.Attribute o f ql) op value pos) (Mp X.K ta tv rd f):=by
 intro pins s Z H D I h;refine wpAny_AugAssign_AttributeAny (cb (ha pins s Z H _ I h) λov s1 aV=>?_);obtain⟨x,H1,I1,rx,a,C,dx,fs,v,ex,ea,c,n,l,q⟩:=aV;subst ex;obtain rfl:ov=Value.ref a:=rx;refine DH I1 ea c n l λu s2 I2 ru=>cb (hv pins s2 Z H1 _ I2 q) λw3 s3 ⟨y,H2,I3,ry,q3⟩=>cb (wg pins s3 Z H2 v y u w3 _ I3 ru ry q3) λw4 s4 aV=>?_;obtain⟨z,H3,I4,rz,pE,ia,Il,l',q4⟩:=aV;exact DM I4 Il c n l' rz λs5 I5=>⟨Z,_,I5,q4⟩
def NZ:V->V->Hp->VK->Prop:=λx y H Q=>∃i j,x=.int i/\y=.int j/\Q (.int (i+j)) H
theorem IB:xV X .Add NZ:=by
 rintro pins s Z H x y u v Q I rx ry ⟨i,j,rfl,rfl,q⟩;obtain⟨t,rfl⟩:=(show ∃t,u=Value.int i t from rx)
 obtain⟨t',rfl⟩:=(show ∃t',v=Value.int j t' from ry)
 exact PyProof.Rows.iadd_int ⟨.int (i+j),H,I.tok _,⟨_,rfl⟩,q⟩
end
section
variable{c:Value}{b:Bool}
inductive gf(K:PySem.W.Frag)(H:Hp):V->Value->Prop where
 |aX:gf K H .aX (.type "NoneType")
 |bl (x:Bool):gf K H (.bl x) (.type "bool")
 |int (i:Int):gf K H (.int i) (.type "int")
 |str (x:Str):gf K H (.str x) (.type "str")
 |ow (x:UInt64):gf K H (.ow x) (.type "float")
 |lst {a:Addr} {xs:List V} (e:H a=some (.lst xs)):gf K H (.ref a) (.type "list")
 |iO {a:Addr} {o:Obj} {xs:List V} (e:H a=some (.iO o (.lst xs))):gf K H (.ref a) (.type "list")
 |tup {a:Addr} {xs:List V} (e:H a=some (.tup xs)):gf K H (.ref a) (.type "tuple")
 |dK {a:Addr} {kvs:List (Key×V)} (e:H a=some (.dK kvs)):gf K H (.ref a) (.type "dict")
 |dT {a:Addr} {kvs:List (List Key×V)} (e:H a=some (.dT kvs)):gf K H (.ref a) (.type "dict")
 |ins {a C dx:Addr} {fs:List (Str×V)} (e:H a=some (.ins C dx fs)) (cl:ie K C) (ha:PySem.W.findIn K (.ref C) "__class__"=some (some (.builtin "object.__class__")))
   (hn:PySem.W.specialIn K (.builtin "object.__class__") "__get__"=some (some (.builtin "getset_descriptor.__get__"))) (pk:PySem.W.takesIn K (.builtin "object.__class__")=some true)
   (hm:PySem.W.mroIn K C (.type "object")=some true):gf K H (.ref a) (.ref C)
theorem Ss{x:V}{t:Value}(I:Inv X pins Z H s)(rx:RelV x u)(ty:gf X.K H x t)(e:PySem.W.kitOne X.K t c=some b)(h:∀tk,Q (.bool b) { s with toks:=tk }) :
  wpAny (model X.prog X.w) A (call (.builtin "isinstance") [u,c]) Q E s:=by
 cases ty with
 |aX=>cases (show u=Value.none from rx);exact bK PySem.W.kitx_none I.fm True.intro e (λz=>nomatch z) h
 |bl y=>cases (show u=Value.bool y from rx);exact bK PySem.W.kitx_bool I.fm True.intro e (λz=>nomatch z) h
 |int i=>obtain⟨t,q⟩:=(show ∃t,u=Value.int i t from rx);cases q;exact bK PySem.W.kitx_int I.fm True.intro e (λz=>nomatch z) h
 |str y=>obtain⟨t,q⟩:=(show ∃t,u=Value.str y t from rx);cases q;exact bK PySem.W.kitx_str I.fm True.intro e (λz=>nomatch z) h
 |ow y=>obtain⟨t,q⟩:=(show ∃t,u=Value.float y t from rx);cases q;exact bK PySem.W.kitx_float I.fm True.intro e (λz=>nomatch z) h
 |@lst a xs ea =>
  cases (show u=Value.ref a from rx);obtain⟨_,_,n,_,h1⟩:=(show k6 X.prog X.w H s.heap a (.lst xs) from I.bz a _ ea)
  exact bK Xh I.fm ⟨_,h1,rfl⟩ e (λz=>nomatch z) h
 |@iO a ob xs ea =>
  cases (show u=Value.ref a from rx);obtain⟨_,_,_,n,_,h1⟩:=(show k6 X.prog X.w H s.heap a (.iO ob (.lst xs)) from I.bz a _ ea)
  exact bK Xh I.fm ⟨_,h1,rfl⟩ e (λz=>nomatch z) h
 |@tup a xs ea =>
  cases (show u=Value.ref a from rx);obtain⟨_,_,_,p⟩:=(show k6 X.prog X.w H s.heap a (.tup xs) from I.bz a _ ea)
  obtain⟨o,h1,h2,_⟩:=p;exact bK Ga I.fm ⟨o,h1,h2⟩ e (λz=>nomatch z) h
 |@dK a kvs ea =>
  cases (show u=Value.ref a from rx);obtain⟨_,_,vs,_,p⟩:=(show k6 X.prog X.w H s.heap a (.dK kvs) from I.bz a _ ea)
  obtain⟨o,es,ep,h1,h2,_⟩:=p;exact bK Xi I.fm ⟨o,h1,h2.1⟩ e (λz=>nomatch z) h
 |@dT a kvs ea =>
  cases (show u=Value.ref a from rx);obtain⟨_,_,xs,_,o,es,ep,h1,h2,_⟩:=(show k6 X.prog X.w H s.heap a (.dT kvs) from I.bz a _ ea)
  exact bK Xi I.fm ⟨o,h1,h2.1⟩ e (λz=>nomatch z) h
 |@ins a C dx fs ea cl ha hn pk hm =>
  cases (show u=Value.ref a from rx);obtain⟨mA,O,_⟩:=uS I.bz ea;obtain⟨od,J,_⟩:=O.look;exact bK (PySem.W.kitx_own (cl.get _) cl.hd ha hn pk hm) I.fm J e (λz=>nomatch z) h
end
structure n8(k:Nat)(A:Around):Prop where
 hd:A.handled=none
 dp:A.depth+3*k+5<recursionLimit
 un:A.units+16*k+200<cLine
theorem n8.mono(r:n8 k A)(h:j<=k):n8 j A:=⟨r.hd,by have:=r.dp;omega,by have:=r.un;omega⟩
theorem n8.deeper{k:Nat}{A:Around}(r:n8 (k+1) A)(env:Env):n8 k (A.deeper env) :=
 ⟨r.hd,by have:=r.dp;show A.depth+1+3*k+5<_;omega,by have:=r.un;show A.units+3+16*k+200<_;omega⟩
theorem TZ{kw:List (Str×Value)}:(A.under (.builtin "type.__call__" ⟨.ref C::us,kw⟩)).depth=A.depth+1:=by
 first|rfl|simp[Around.under,Code.weight,Code.isCreation,Code.isGuard,Code.isCaller,Code.frames,Code.isFrame,guardIds]
theorem Ua{kw:List (Str×Value)}:(A.under (.builtin "type.__call__" ⟨.ref C::us,kw⟩)).units=A.units+1:=by
 first|rfl|simp[Around.under,Code.cUnits,Code.frames,Code.isFrame]
theorem n8.make(r:n8 (k+1) A)(C:Addr)(us:List Value)(kw:List (Str×Value)):n8 k (A.under (.builtin "type.__call__" ⟨.ref C::us,kw⟩)) :=
 ⟨r.hd,by have:=r.dp;rw[TZ];omega,by have:=r.un;rw[Ua];omega⟩
theorem n8.depth{k:Nat}{A:Around}(r:n8 k A):A.depth<recursionLimit:=by have:=r.dp;omega
def zR:TA:=λ_ H Q=>Q [] H
def QG(ta:TE)(tr:TA):TA:=λZ H Q=>ta Z H λx H1=>tr Z H1 λxs H2=>Q (x::xs) H2
theorem U8:PA X [] zR:=λ_ _ _ _ H Q I h=>Calls.spliced_nil ⟨[],H,I,.nil,h⟩
theorem P0(ha:PE X e te)(hr:PA X es t)(hs:starEach (e::es) X.env=(false,eval e X.env)::starEach es X.env:=by rfl):PA X (e::es) (QG te t):=by
 intro pos pins s Z H Q I h;rw[hs];show wpAny _ _ (spliced ((false,eval e X.env)::backTo pos (starEach es X.env))) _ _ s;refine Calls.spliced_cons (cb (ha pins s Z H _ I h) λu s1 aV=>?_);obtain⟨x,H1,I1,r1,q1⟩:=aV;exact cb (hr pos pins s1 Z H1 _ I1 q1) λus s2 ⟨xs,H2,I2,r2,q2⟩=>⟨x::xs,H2,I2,.cons r1 r2,q2⟩
def OK(t:TA):TE:=λZ H Q=>t Z H λxs H1=>xs.length<=sizeLine/\∀p,H1 p=none->Q (.ref p) (upd H1 p (.tup xs))
def OD(t:TA):TE:=λZ H Q=>t Z H λxs H1=>xs.length<=sizeLine/\∀p,H1 p=none->Q (.ref p) (upd H1 p (.lst xs))
theorem Jx{x1}(h:PA X es t):PE X (.Tuple es x1 pos) (OK t):=by
 intro pins s Z H Q I hq;refine wpAny_Tuple_spliced (cb (h pos pins s Z H _ I hq) λus s1 ⟨xs,H1,I1,r,z,q⟩=>⟨by rw[<- r.length];exact z,?_⟩);have hf:H1 s1.heap.objs.size=none:=I1.bz.fresh (aj _);refine⟨.ref s1.heap.objs.size,upd H1 s1.heap.objs.size (.tup xs),I1.laid (t':=s1.toks) (λb u e=>ai _ e) (aj _) ?_,rfl,q _ hf⟩;exact⟨z,us,r,⟨_,au _ rfl,rfl,⟨_,rfl⟩,rfl⟩⟩
theorem Jt(h:PA X es t):PE X (.List es pos) (OD t):=by
 intro pins s Z H Q I hq;refine wpAny_List_spliced (cb (h pos pins s Z H _ I hq) λus s1 ⟨xs,H1,I1,r,z,q⟩=>⟨by rw[<- r.length];exact z,?_⟩);have hf:H1 s1.heap.objs.size=none:=I1.bz.fresh (aj _);refine⟨.ref s1.heap.objs.size,upd H1 s1.heap.objs.size (.lst xs),I1.laid (t':=s1.toks) (λb u e=>ai _ e) (aj _) ?_,rfl,q _ hf⟩;exact⟨z,us,0,r,au _ rfl⟩
noncomputable abbrev Sp:=List V->Hp->VK->XK->Prop
noncomputable abbrev lF:=List Env->Hp->Shared->XK->Value->Shared->Prop
structure oJ(P:Program)(w:World)(K:PySem.W.Frag)(mg:Str->Option Value)(base:Heap)(A:Around)(outer:List Env)(s:Shared)(H:Hp):Prop where
 frames:A.frames=some outer
 mod:Mod K mg base
 bs:∀b o,base.get? b=some o->s.heap.get? b=some o/\H b=none
 lD:base.objs.size<=s.heap.objs.size
 H9:s.heap.FunFrames base outer
 lN:∀b∈fe outer,H b=none
 bz:fz P w H s.heap
 bare:AllBare s.gens
def CE(outer:List Env)(P:Program)(w:World)(H:Hp)(s:Shared)(Q:VK)(u:Value)(s':Shared):Prop :=
 ∃v H',s'.os=s.os/\AllBare s'.gens/\Un (fe outer) [] H H' s.heap s'.heap/\fz P w H' s'.heap/\RelV v u/\Q v H'
def CR(CX:lF)(outer:List Env)(P:Program)(w:World)(H:Hp)(s:Shared)(Q:VK)(E:XK)(r:Result)(s':Shared):Prop :=
 match r with
 |.ok (.ret u)=>CE outer P w H s Q u s'
 |.ok _=>False
 |.error e=>CX outer H s E e s'
structure fR(P:Program)(w:World)(K:PySem.W.Frag)(mg:Str->Option Value)(base:Heap)(CX:lF)(k:Nat)(f:Addr)(fd:FuncData)(ps:List Str)(sp:Sp):Prop where
 len:∀vs H Q E,sp vs H Q E->vs.length=ps.length
 run:∀(A:Around) (outer:List Env) (s:Shared) (H:Hp) (args:Args) (us:List Value) (vs:List V) (Q:VK) (E:XK),n8 k A->oJ P w K mg base A outer s H->BindsTo s fd args (ps.zip us)->Vals vs us->sp vs H Q E ->
  codeAny (model P w) A (.call (.ref f) args) (CR CX outer P w H s Q E) s
theorem oJ.make{mg:Str->Option Value}{outer:List Env}(e:oJ P w K mg base A outer s H)(C:Addr)(us:List Value)(kw:List (Str×Value)) :
  oJ P w K mg base (A.under (.builtin "type.__call__" ⟨.ref C::us,kw⟩)) outer s H:=⟨by first|exact e.frames|(simpa[Around.under,Code.envs,Code.isFrame,pushEnvs] using e.frames),e.mod,e.bs,e.lD,e.H9,e.lN,e.bz,e.bare⟩
section
variable{s':Shared}
theorem Inv.CB(I:Inv X pins Z H s):oJ X.prog X.w X.K X.mg X.base X.A X.stack s H :=
 ⟨I.ok.frames,I.ok.mod,I.bs,aL I.ok.lD I.sz,I.stack,I.uW,I.bz,I.bare⟩
theorem Inv.after{Q:VK}(I:Inv X pins Z H s)(h:CE X.stack X.prog X.w H s Q u s'):EP X pins Z Q u s':=by
 obtain⟨v,H',os,bare,un,bz,r,q⟩:=h;obtain⟨hh,g,d,t,nS⟩:=s';obtain rfl:nS=s.os:=os;exact⟨v,H',I.call (h':=hh) (g':=g) (d':=d) (t':=t) (ch:=[]) un bz bare (λb z=>absurd z (by simp)),r,q⟩
end
def Cq(sp:Sp)(dvs:List V)(E:XK)(t:TA):TE:=λZ H Q=>t Z H λvs H1=>sp (vs++dvs) H1 Q E
def Cr(C:Addr)(sp:Sp)(dvs:List V)(E:XK)(t:TA):TE:=λZ H Q=>t Z H λvs H1=>∀x dx,H1 x=none->H1 dx=none->dx≠x ->
 sp (.ref x::(vs++dvs)) (upd (upd H1 dx (.own x)) x (.ins C dx [])) (λv H2=>v=.aX/\Q (.ref x) H2) E
def Binds(K:PySem.W.Frag)(fd:FuncData)(ps:List Str)(ds:List Value):Prop :=
 ∀(s:Shared) (us:List Value),K.In s.heap->(us++ds).length=ps.length->BindsTo s fd ⟨us,[]⟩ (ps.zip (us++ds))
theorem Binds.all(h:∀us:List Value,us.length=ps.length->bindArgs fd ⟨us,[]⟩=pure (ps.zip us)):Binds K fd ps []:=λs us _ hl=>by
 rw[eY] at hl ⊢;exact .of_eq (h us hl)
def Passes(CX:lF)(X:Cx)(E:XK):Prop:=∀(pins:List (Addr×Obj)) (Z:St) (H:Hp) (s:Shared) (e:Value) (s':Shared),Inv X pins Z H s->CX X.stack H s E e s'->X.xe e s'
section
variable{dvs:List V}{ds:List Value}{E:XK}
theorem uG{Q:VK}(F:fR X.prog X.w X.K X.mg X.base CX k f fd ps sp)(hr:n8 k X.A)(hb:Binds X.K fd ps ds)(hd:Vals dvs ds)(hx:Passes CX X E)(I:Inv X pins Z H s)(r:Vals vs us)(h:sp (vs++dvs) H Q E):wpAny (model X.prog X.w) X.A (call (.ref f) us) (EP X pins Z Q) X.xe s:=by
 have r2:Vals (vs++dvs) (us++ds):=r.append hd;have hl:(us++ds).length=ps.length:=by rw[<- r2.length];exact F.len _ _ _ _ h
 refine wpAny_call (fV (F.run X.A X.stack s H ⟨us,[]⟩ (us++ds) (vs++dvs) Q E hr I.CB (hb s us I.fm hl) r2 h) λr s' hq=>?_);cases r with
 |error e=>exact hx pins Z H s e s' I hq
 |ok fl =>
  cases fl with
  |ret u=>exact I.after hq
  |next=>exact False.elim hq
  |brk=>exact False.elim hq
  |cont=>exact False.elim hq
theorem LY(F:fR X.prog X.w X.K X.mg X.base CX k f fd ps sp)(hr:n8 k X.A)(hg:Gl X x)(hm:X.mg x=some (.ref f))(hk:PySem.W.keepIn X.K (.ref f)=true)(hb:Binds X.K fd ps ds)(hd:Vals dvs ds)(hx:Passes CX X E)(ha:PA X (e::es) t)(gj:(x==("__debug__":Str))=false:=by decide)(he:starEach (e::es) X.env=(false,eval e X.env)::starEach es X.env:=by rfl)(fK:(backTo pos (starEach es X.env)).any (·.1)=false:=by rfl) :
  PE X (.Call (.Name x p) (e::es) [] pos) (Cq sp dvs E t):=by
 intro pins s Z H Q I h;refine cz (M1 I hg hm ?_ gj);refine iZ (h₀:=X.base) I.ok.mod.kU hk (cb (ha pos pins s Z H _ I h) λus s1 ⟨vs,H1,I1,r,q⟩=>⟨I1.fm,?_⟩) he fK;exact uG F hr hb hd hx I1 r q
theorem We(F:fR X.prog X.w X.K X.mg X.base CX k f fd ps sp)(hr:n8 k X.A)(hg:Gl X x)(hm:X.mg x=some (.ref f))(hk:PySem.W.keepIn X.K (.ref f)=true)(hb:Binds X.K fd ps ds)(hd:Vals dvs ds)(hx:Passes CX X E)(gj:(x==("__debug__":Str))=false:=by decide):PE X (.Call (.Name x p) [] [] pos) (Cq sp dvs E zR):=by
 intro pins s Z H Q I h;refine cz (M1 I hg hm ?_ gj);exact iG I.fm hk (uG (us:=[]) F hr hb hd hx I .nil h)
structure Mk(K:PySem.W.Frag)(C f:Addr):Prop where
 makes:PySem.W.makesIn K C=true
 init:PySem.W.findIn K (.ref C) "__init__"=some (some (.ref f))
 fn:PySem.W.isFn K (.ref f)=true
 kp:PySem.W.keepIn K (.ref C)=true
theorem CJ{Q:VK}(M:Mk X.K C f)(F:fR X.prog X.w X.K X.mg X.base CX k f fd ps sp)(hr:n8 (k+1) X.A)(hb:Binds X.K fd ps ds)(hd:Vals dvs ds)(hx:Passes CX X E)(I:Inv X pins Z H s)(r:Vals vs us)(h:∀x dx,H x=none->H dx=none->dx≠x->sp (.ref x::(vs++dvs)) (upd (upd H dx (.own x)) x (.ins C dx [])) (λv H2=>v=.aX/\Q (.ref x) H2) E) :
  wpAny (model X.prog X.w) X.A (call (.ref C) us) (EP X pins Z Q) X.xe s:=by
 have hq:=h (s.heap.objs.size+1) s.heap.objs.size (I.bz.fresh (fS _)) (I.bz.fresh (aj _)) (aI (dC _));have I2:=Inv.made (C:=C) I;have r2:Vals (V.ref (s.heap.objs.size+1)::(vs++dvs)) (Value.ref (s.heap.objs.size+1)::(us++ds)):=.cons rfl (r.append hd);have hl:(Value.ref (s.heap.objs.size+1)::us++ds).length=ps.length:=by
  have e:=r2.length;rw[F.len _ _ _ _ hq] at e;exact e.symm
 refine wpAny_call (VT (f:=f) I.fm M.makes M.init (fC.mp M.fn) (fV (F.run _ X.stack _ _ ⟨Value.ref (s.heap.objs.size + 1) :: us,[]⟩ (Value.ref (s.heap.objs.size + 1) :: (us ++ ds)) _ _ E (hr.make C us [])
  (I2.CB.make C us []) (hb _ (Value.ref (s.heap.objs.size + 1) :: us) I2.fm hl) r2 hq) λr s' kY=>?_))
 cases r with
 |error e=>exact hx pins Z _ _ e s' I2 kY
 |ok fl =>
  cases fl with
  |ret u =>
   obtain⟨v,H',I3,rv,ev,q3⟩:=I2.after kY;subst ev;exact⟨rv,⟨V.ref (s.heap.objs.size+1),H',I3,rfl,q3⟩⟩
  |next=>exact False.elim kY
  |brk=>exact False.elim kY
  |cont=>exact False.elim kY
theorem Ma(M:Mk X.K C f)(F:fR X.prog X.w X.K X.mg X.base CX k f fd ps sp)(hr:n8 (k+1) X.A)(hg:Gl X x)(hm:X.mg x=some (.ref C))(hb:Binds X.K fd ps ds)(hd:Vals dvs ds)(hx:Passes CX X E)(ha:PA X (e::es) t)(gj:(x==("__debug__":Str))=false:=by decide)(he:starEach (e::es) X.env=(false,eval e X.env)::starEach es X.env:=by rfl)(fK:(backTo pos (starEach es X.env)).any (·.1)=false:=by rfl) :
  PE X (.Call (.Name x p) (e::es) [] pos) (Cr C sp dvs E t):=by
 intro pins s Z H Q I h;refine cz (M1 I hg hm ?_ gj);refine iZ (h₀:=X.base) I.ok.mod.kU M.kp (cb (ha pos pins s Z H _ I h) λus s1 ⟨vs,H1,I1,r,q⟩=>⟨I1.fm,?_⟩) he fK;exact CJ M F hr hb hd hx I1 r q
theorem Wk(M:Mk X.K C f)(F:fR X.prog X.w X.K X.mg X.base CX k f fd ps sp)(hr:n8 (k+1) X.A)(hg:Gl X x)(hm:X.mg x=some (.ref C))(hb:Binds X.K fd ps ds)(hd:Vals dvs ds)(hx:Passes CX X E)(gj:(x==("__debug__":Str))=false:=by decide):PE X (.Call (.Name x p) [] [] pos) (Cr C sp dvs E zR):=by
 intro pins s Z H Q I h;refine cz (M1 I hg hm ?_ gj);exact iG I.fm M.kp (CJ (us:=[]) M F hr hb hd hx I .nil h)
end
structure gQ(N P:List Str)(sc:Scope):Prop where
 kind:sc.kind=.function
 co:sc.isCoroutine=false
 gen:sc.isGenerator=false
 nd:N.Nodup
 pre:N.take P.length=P
 par:∀x∈P,sc.names.lookup x=some .local\/sc.names.lookup x=some .cell
 kP:∀y∈sc.names,y.2≠.free
theorem CW{kindOf:Str->Option NameKind}{x:Str}:∀{binds:List (Str×Value)} {m:Str->Option Value},(∀v,(x,v)∉binds)->bindL kindOf binds m x=m x
 |[],_,_=>rfl
 |(n,v)::r,m,h=>by
  unfold bindL;rw[CW λw hw=>h w (bH _ hw)];split
  ·have:x≠n:=by rintro rfl;exact h v fF
   simp[this]
  ·rfl
theorem CU{kindOf:Str->Option NameKind}{x:Str}:∀{binds:List (Str×Value)} {m:Str->Option Value},(∀v,(x,v)∉binds)->bindC kindOf binds m x=m x
 |[],_,_=>rfl
 |(n,v)::r,m,h=>by
  unfold bindC;rw[CU λw hw=>h w (bH _ hw)];split
  ·rfl
  ·have:x≠n:=by rintro rfl;exact h v fF
   simp[this]
theorem CV{kindOf:Str->Option NameKind}{x:Str}{v:Value}:∀{P:List Str} {vs:List Value} {i:Nat} {m:Str->Option Value},P.Nodup->P[i]?=some x->vs[i]?=some v->kindOf x=some .local ->
  bindL kindOf (P.zip vs) m x=some v
 |[],_,_,_,_,h,_,_=>by simp at h
 |_::_,[],_,_,_,_,h,_=>by simp at h
 |p::P,w::vs,0,m,nd,h1,h2,hk=>by
  simp at h1 h2;subst h1;subst h2;show bindL kindOf ((p,w)::P.zip vs) m p=_;unfold bindL;rw[CW λv hv=>(dQ.mp nd).1 (kG hv).1,aJ hk];simp
 |p::P,w::vs,i+1,m,nd,h1,h2,hk=>by
  show bindL kindOf ((p,w)::P.zip vs) m x=_;unfold bindL;exact CV (i:=i) (dQ.mp nd).2 (by simpa using h1) (by simpa using h2) hk
theorem CT{kindOf:Str->Option NameKind}{x:Str}{v:Value}:∀{P:List Str} {vs:List Value} {i:Nat} {m:Str->Option Value},P.Nodup->P[i]?=some x->vs[i]?=some v->kindOf x≠some .local ->
  bindC kindOf (P.zip vs) m x=some v
 |[],_,_,_,_,h,_,_=>by simp at h
 |_::_,[],_,_,_,_,h,_=>by simp at h
 |p::P,w::vs,0,m,nd,h1,h2,hk=>by
  simp at h1 h2;subst h1;subst h2;show bindC kindOf ((p,w)::P.zip vs) m p=_;unfold bindC;rw[CU λv hv=>(dQ.mp nd).1 (kG hv).1,aB hk];simp
 |p::P,w::vs,i+1,m,nd,h1,h2,hk=>by
  show bindC kindOf ((p,w)::P.zip vs) m x=_;unfold bindC;exact CT (i:=i) (dQ.mp nd).2 (by simpa using h1) (by simpa using h2) hk
def start(N:List Str)(vs:List V):St:=vs.map some++List.replicate (N.length-vs.length) none
def Z2(CX:lF)(P:Program)(w:World)(K:PySem.W.Frag)(mg:Str->Option Value)(base:Heap)(N:List Str)(qual:Str)(scope:Scope)(f:Addr)(cd:Value)(A:Around)(outer:List Env)(s:Shared)(H:Hp)(E:XK):Cx where
 prog:=P
 w:=w
 K:=K
 mg:=mg
 base:=base
 A:=A.deeper (envOfC qual scope s.heap.objs.size f cd)
 N:=N
 cR:=s
 iy:=H
 env:=envOfC qual scope s.heap.objs.size f cd
 outer:=outer
 stack:=envOfC qual scope s.heap.objs.size f cd::outer
 ex:=[]
 calm:=true
 fn:=λ_=>true
 pn:=[]
 xe:=λe s'=>wpAny (model P w) (A.deeper (envOfC qual scope s.heap.objs.size f cd)) (leaving (envOfC qual scope s.heap.objs.size f cd) e) (λ_ mm=>CX outer H s E e mm) (λe' mm=>CX outer H s E e' mm) s'
theorem yG{sc:Scope}{n:Nat}(h:sc.names.lookup x=some .cell):∃c,(cellsFrom n sc.names []).lookup x=some c:=by
 have q:=dc sc.names n [] (.inl h);exact dN.mp q
theorem Sr{mg:Str->Option Value}{qual:Str}{scope:Scope}{cd:Value}{outer:List Env}{s1:Shared}{E:XK}(S:gQ N ps scope)(hd:A.handled=none)(e0:oJ P w K mg base A outer s H)(hl:vs.length=ps.length)(r:Vals vs us)(x:InCallC s s.heap.objs.size (bindL (envOfC qual scope s.heap.objs.size f cd).kindOf (ps.zip us) λ_=>none) (cellsFrom (s.heap.objs.size+1) scope.names []) (bindC (envOfC qual scope s.heap.objs.size f cd).kindOf (ps.zip us) λ_=>none) s1) :
  Inv (Z2 CX P w K mg base N qual scope f cd A outer s H E) [] (start N vs) H s1:=by
 have fK:ps.length<=N.length:=by have:=dM List.length S.pre;rw[cX] at this;omega
 obtain⟨h1,tk,rfl,hk⟩:=x.done;have qy:∀b:Addr,b∉(Z2 CX P w K mg base N qual scope f cd A outer s H E).ex:=λb z=>absurd (show b∈([]:List Addr) from z) (by simp);refine ⟨⟨e0.mod,S.kind,rfl,rfl,aj _,λy z c h1 h2=>?_,λy hy=>?_,λy c _ h=>?_,λ_=>hd,Around.frames_deeper e0.frames,.inr ⟨rfl,rfl⟩,λb z=>absurd z (qy b),e0.bs,e0.lD,λb _ _=>qy b,λb z=>absurd z (qy b),e0.H9,e0.lN⟩,
  rfl,e0.bare,Un.kept hk,⟨_,x.toInCall.ns,λi y v h1 h2 h3=>?_⟩,λy c h=>⟨_,x.cell y c h⟩,e0.bz.fresh (aj _),λy c h=>?_,λp hp=>absurd (show p ∈ ([]:List (Addr × Obj)) from hp) (by simp),e0.bz.kept hk,?_⟩
 ·exact name_of_addr x.apart (aH h1) (aH h2)
 ·have hy:scope.names.lookup y=some .cell\/scope.names.lookup y=some .free:=hy;rcases hy with hy|hy
  ·exact yG hy
  ·exact absurd rfl (S.kP _ (aH hy))
 ·exact cM (x.above y c (aH h))
 ·have hi:i<vs.length:=by
   unfold start at h2;by_cases hi:i<vs.length
   ·exact hi
   ·rw[cI (by simpa using hi)] at h2;rw[cY] at h2;split at h2<;>cases h2
  have ha:vs[i]?=some v:=by
   unfold start at h2;rw[aE (by simpa using hi),aA] at h2;cases e:vs[i]? with
   |none=>rw[e] at h2;cases h2
   |some a=>rw[e] at h2;cases h2;rfl
  obtain⟨u,hu,rv⟩:=r.get ha;have hp:ps[i]?=some y:=by
   rw[<- S.pre,List.getElem?_take_of_lt (by omega)];exact h1
  have AF:ps.Nodup:=by rw[<- S.pre];exact S.nd.sublist (List.take_sublist _ _)
  refine⟨u,rv,?_⟩;rcases S.par y (bc hp) with k|k
  ·exact .inl ⟨k,CV AF hp hu k⟩
  ·obtain⟨c,e⟩:=yG (n:=s.heap.objs.size+1) k;refine .inr ⟨.inl k,c,e,?_⟩;have q:=x.cell y c e;rw[CT AF hp hu (by show scope.names.lookup y≠_;rw[k];decide)] at q;exact q
 ·exact e0.bz.fresh (cM (x.above y c (aH h)))
 ·unfold start;show _=N.length;rw[bt,av,gU];omega
theorem Pm{mg:Str->Option Value}{name qual:Str}{params:Arguments}{scope:Scope}{dV kV doc pm eU ct oc:Value}{an od:Option Addr}{ky:Array (Option Value)}(lk:K.lookup f=some ⟨oc,od,.func (PySem.W.fnOf name qual params body scope dV kV doc pm an eU ct),ky⟩)(kh:PySem.W.codeIn K eU qual=true)(S:gQ N ps scope)(len:∀vs H Q E,sp vs H Q E->vs.length=ps.length)(rn:∀ (A:Around) (outer:List Env) (s:Shared) (H:Hp) (vs:List V) (Q:VK) (E:XK),n8 k (A.deeper (envOfC qual scope s.heap.objs.size f eU))->sp vs H Q E ->
   ∃ t,ic (Z2 CX P w K mg base N qual scope f eU A outer s H E) body t/\t { nx:=λ_ H'=>Q .aX H',rt:=Q } (start N vs) H) :
  fR P w K mg base CX (k+1) f (PySem.W.fnOf name qual params body scope dV kV doc pm an eU ct) ps sp:=by
 refine⟨len,λA outer s H args us vs Q E hr e0 hb r pq=>?_⟩;have hl:=len _ _ _ _ pq;have KX:K.In s.heap:=e0.mod.kU.keeps λb o e=>(e0.bs b o e).1;have lim:s.heap.NoLimit:=e0.mod.nolimit.keeps λb o e=>(e0.bs b o e).1;have qU:∀y∈ps.zip us,scope.names.lookup y.1=some .local\/(scope.names.lookup y.1=some .cell/\((cellsFrom (s.heap.objs.size+1) scope.names []).lookup y.1).isSome=true):=λ⟨n,v⟩ hy=>by
  rcases S.par n (kG hy).1 with q|q
  ·exact .inl q
  ·exact .inr ⟨q,dc _ _ _ (.inl q)⟩
 refine codeAny_call_function hr.depth (KX _ _ lk) rfl S.co S.gen rfl (PySem.W.codeRec_of KX kh) (hb _ _ _ _ ?_);refine wpAny_newFunctionEnv_cells S.kind qU λenv he s1 x=>?_;subst he;refine⟨lim.keeps x.toInCall.keep,codeAny_func ?_⟩;obtain⟨t,ht,hq⟩:=rn A outer s H vs Q E (hr.deeper _) pq;have I:Inv (Z2 CX P w K mg base N qual scope f eU A outer s H E) [] (start N vs) H s1:=Sr S hr.hd e0 hl r x;refine bg (ht [] s1 (start N vs) H _ I hq) (λfl s' hs=>?_) λe s' hs=>hs;have fin:∀{bD:St} {H':Hp} {v:V} {u:Value},Inv (Z2 CX P w K mg base N qual scope f eU A outer s H E) [] bD H' s'->RelV v u->Q v H'->CE outer P w H s Q u s' :=
  λ{bD H' v u} J rv q=>⟨v,H',J.os,J.bare,J.base,J.bz,rv,q⟩
 cases fl with
 |ret u =>
  obtain⟨v,bD,H',J,rv,q⟩:=hs;exact fin J rv q
 |next =>
  obtain⟨bD,H',J,q⟩:=hs;exact fin (v:=V.aX) (u:=Value.none) J rfl q
 |brk =>
  obtain⟨_,_,_,q⟩:=hs;exact False.elim q
 |cont =>
  obtain⟨_,_,_,q⟩:=hs;exact False.elim q
section
variable{id T:String}{r:List V->Hp->VK->Prop}
def vH(r:List V->Hp->VK->Prop)(t:TA):TE:=λZ H Q=>t Z H λvs H1=>r vs H1 Q
theorem X5(hc:m5 X (.builtin id) r)(hg:Gl X x)(hm:X.mg x=none)(hv:bootBuiltins x=some (.builtin id))(ha:PA X (e::es) t)(hn:x≠"__name__":=by decide)(gj:(x==("__debug__":Str))=false:=by decide)(he:starEach (e::es) X.env=(false,eval e X.env)::starEach es X.env:=by rfl)(fK:(backTo pos (starEach es X.env)).any (·.1)=false:=by rfl):PE X (.Call (.Name x p) (e::es) [] pos) (vH r t):=by
 intro pins s Z H Q I h;refine cz (K6 I hg hm hv ?_ hn gj);exact PyProof.Rows.callWith_builtin1 (cb (ha pos pins s Z H _ I h) λus s1 ⟨vs,H1,I1,r1,q1⟩=>hc pins s1 Z H1 vs us Q I1 r1 q1) he fK
theorem N1(hc:m5 X (.type T) r)(hg:Gl X x)(hm:X.mg x=none)(hv:bootBuiltins x=some (.type T))(ha:PA X (e::es) t)(hn:x≠"__name__":=by decide)(gj:(x==("__debug__":Str))=false:=by decide)(he:starEach (e::es) X.env=(false,eval e X.env)::starEach es X.env:=by rfl)(fK:(backTo pos (starEach es X.env)).any (·.1)=false:=by rfl):PE X (.Call (.Name x p) (e::es) [] pos) (vH r t):=by
 intro pins s Z H Q I h;refine cz (K6 I hg hm hv ?_ hn gj);exact bx (cb (ha pos pins s Z H _ I h) λus s1 ⟨vs,H1,I1,r1,q1⟩=>hc pins s1 Z H1 vs us Q I1 r1 q1) he fK
end
end L2
namespace HT
open PySem PyProof.Rows
section
variable{prog:Program}{w:World}{A:Around}{E:Value->Shared->Prop}{s:Shared}
theorem K'{t b:Addr}{vs ws:List Value}{Q:Value->Shared->Prop}(ht:IsTup s.heap t vs.toArray)(hb:IsTup s.heap b ws.toArray)(hv:vs≠[])(h1:ws=[]->Q (.ref t) s)(h2:ws≠[]->Q (.ref s.heap.objs.size) { s with heap:=s.heap.push { cls:=.type "tuple",data:=.seq (vs++ws).toArray } })(hsz:vs.length+ws.length<=sizeLine):wpAny (model prog w) A (binaryOp .Add (.ref t) (.ref b)) Q E s:=by
 obtain⟨⟨cls,dd,data,sl⟩,ho,hc,n,hd⟩:=id ht;obtain⟨⟨sf,nv,data2,jK⟩,jE,lK,n2,hd2⟩:=id hb;simp only at hc hd lK hd2;subst hc hd lK hd2;have e:vs.toArray++ws.toArray=(vs++ws).toArray:=by simp
 by_cases hw:ws=[]
 ·exact Yf ⟨_,ho,rfl⟩ ⟨_,jE,rfl⟩ ig ko gE gq (fW _ _)
   (tuple_addW1 t b vs.toArray ws.toArray n n2 dd nv sl jK (by simpa using hv) (by simp[hw])) ⟨ho,jE,h1 hw⟩
 ·refine Yf ⟨_,ho,rfl⟩ ⟨_,jE,rfl⟩ ig ko gE gq (fW _ _)
   (tuple_addW2 t b vs.toArray ws.toArray n n2 dd nv sl jK (by simpa using hv) (by simpa using hw) (by rw[ax,ax];exact hsz)) ⟨ho,jE,?_⟩
  rw[e];exact h2 hw
def df(n d:Nat):Option Int->Nat
 |none=>d
 |some v=>if v<0 then(v+(n:Int)).toNat else min v.toNat n
theorem JQ(n d:Nat)(hd:d<=n)(o:Option Int):df n d o<=n:=by
 cases o with
 |none=>exact hd
 |some v =>
  show(if v<0 then(v+(n:Int)).toNat else min v.toNat n)<=n;by_cases hv:v<0
  ·rw[aJ hv];omega
  ·rw[aB hv];exact Nat.min_le_right _ _
theorem EO(v:Int)(n d:Nat):(if v<0 then max (v+(n:Int)) 0 else min v (n:Int))=((df n d (some v):Nat):Int):=by
 show(if v<0 then max (v+(n:Int)) 0 else min v (n:Int))=(((if v<0 then(v+(n:Int)).toNat else min v.toNat n):Nat):Int);by_cases hv:v<0
 ·simp only[if_pos hv];omega
 ·simp only[if_neg hv];omega
theorem Ts(lo hi:Option Int)(n:Nat):Builtin.Slice.sliceAdjust lo hi 1 (n:Int)=(((df n 0 lo:Nat):Int),((df n n hi:Nat):Int)):=by
 have h1:¬((1:Int)<0):=by omega
 unfold Builtin.Slice.sliceAdjust;simp only[h1,if_false];refine Prod.ext ?_ ?_
 ·cases lo with
  |none=>rfl
  |some v=>exact EO v n 0
 ·cases hi with
  |none=>rfl
  |some v=>exact EO v n n
theorem Uj(i j:Nat):Builtin.Slice.slicePlaces (i:Int) (j:Int) 1=j-i:=by
 unfold Builtin.Slice.slicePlaces;have h1:(1:Int)>0:=by omega
 simp only[h1,if_true,Int.ediv_one];split<;>omega
theorem DO{v:Value}{o:Option Int}{Q:Option Int->Shared->Prop}(p:IsPart v o)(h:Q o s):wpAny (model prog w) A (Builtin.Slice.slicePartIndex v) Q E s:=by
 cases p with
 |none=>exact slicePart_none h
 |int i t=>exact slicePart_int h
theorem P7{sl:Addr}{vl vu:Value}{lo hi:Option Int}{n:Nat}{Q:Int×Int×Nat->Shared->Prop}(hs:s.heap.IsSliceOf sl vl vu .none)(pl:IsPart vl lo)(pu:IsPart vu hi)(h:Q (((df n 0 lo:Nat):Int),1,df n n hi-df n 0 lo) s):wpAny (model prog w) A (Builtin.Slice.sliceApplied (.ref sl) (pure (n:Int))) Q E s:=by
 obtain⟨os,oi,lI,rg⟩:=id hs;unfold Builtin.Slice.sliceApplied Builtin.Slice.sliceFields;refine aa (aa (jv oi rg (x:=vl) rfl (aa (jv oi rg (x:=vu) rfl (aa (jv oi rg (x:=.none) rfl (ah ?_)))))));refine aa (slicePart_none ?_);show wpAny _ _ (if((1:Int)==0)=true then _ else _) _ _ s;rw[aB (by decide)];refine aa (DO pl (aa (DO pu (aa (ah ?_)))));show wpAny _ _ (match Builtin.Slice.sliceAdjust lo hi 1 (n:Int) with|(lo,hi)=>pure (lo,(1:Int),Builtin.Slice.slicePlaces lo hi 1)) _ _ s;rw[Ts lo hi n];show wpAny _ _ (pure (((df n 0 lo:Nat):Int),(1:Int),Builtin.Slice.slicePlaces ((df n 0 lo:Nat):Int) ((df n n hi:Nat):Int) 1)) _ _ s;rw[Uj];exact ah h
theorem Wo(xs:Array Value)(i k:Nat):((List.range k).filterMap λ(m:Nat)=>xs[((i:Int)+(m:Int)*1).toNat]?).toArray=((xs.toList.drop i).take k).toArray:=by
 have e:(λ(m:Nat)=>xs[((i:Int)+(m:Int)*1).toNat]?)=λm=>xs[i+m]?:=by
  funext m
  have:((i:Int)+(m:Int)*1).toNat=i+m:=by omega
  rw[this]
 rw[e];have:=pick_run xs i k;rw[List.filterMap_map] at this;have e2:((λx=>xs[x]?) ∘ λx=>i+x)=λm=>xs[i+m]?:=rfl;rw[e2] at this;rw[this]
theorem RT{t sl:Addr}{items:Array Value}{vl vu:Value}{lo hi:Option Int}{Q:Value->Shared->Prop}(ht:IsTup s.heap t items)(hs:s.heap.IsSliceOf sl vl vu .none)(pl:IsPart vl lo)(pu:IsPart vu hi)(hw:¬(df items.size 0 lo=0/\df items.size items.size hi=items.size))(h:Q (.ref s.heap.objs.size) { s with heap:=s.heap.push { cls:=.type "tuple",data:=.seq ((items.toList.drop (df items.size 0 lo)).take (df items.size items.size hi-df items.size 0 lo)).toArray } })(hsz:items.size<=sizeLine):wpAny (model prog w) A (getItem (.ref t) (.ref sl)) Q E s:=by
 have jN:sizeOk (.seq ((items.toList.drop (df items.size 0 lo)).take (df items.size items.size hi-df items.size 0 lo)).toArray):=by
  show((items.toList.drop (df items.size 0 lo)).take (df items.size items.size hi-df items.size 0 lo)).toArray.size<=sizeLine;rw[ax,cX,gw,cU];omega
 have hj:df items.size items.size hi<=items.size:=JQ _ _ (aj _) hi;obtain⟨os,oi,lI,rg⟩:=id hs;have wH:s.TypeIs (.ref sl) "slice":=⟨os,oi,lI⟩
 unfold getItem
 try with_reducible refine bA ?_
 first|refine aa (ah ?_)|skip
 refine aa (wpAny_sequenceKey ht.typeIs (by decide) ?_);refine aa (eL (name:=Str.ofString "__getitem__") ht.typeIs bE
  (bS bE ht.typeIs entry_tuple_getitem ?_ (args_tuple_getitem _ _)))
 show wpAny _ _ (Builtin.Tuple.tupleItemsOf (.ref t) >>= _) _ _ s;refine aa (tupleItemsOf_ ht ?_);refine aa (cV wH ?_);rw[aJ (by decide)];refine aa (P7 hs pl pu ?_);have kf:¬((((df items.size 0 lo:Nat):Int)==0&&(1:Int)==1&&(df items.size items.size hi-df items.size 0 lo)==items.size)=true):=by
  intro q;rw[aY,aY] at q;have q1:((df items.size 0 lo:Nat):Int)=0:=eq_of_beq q.1.1;have q2:df items.size items.size hi-df items.size 0 lo=items.size:=eq_of_beq q.2;exact hw ⟨by omega,by omega⟩
 show wpAny _ _ (if(((df items.size 0 lo:Nat):Int)==0&&(1:Int)==1&&(df items.size items.size hi-df items.size 0 lo)==items.size)=true then _ else _) _ _ s;rw[aB kf,Wo]
 first
  |exact wpAny_bind (m:=Builtin.Tuple.tupleExact _) (wpAny_newObj_type (wpAny_pure ⟨_,rfl,wpAny_pure h⟩) jN)
  |exact wpAny_bind (m:=Builtin.Tuple.tupleExact _) (wpAny_newObj_type (wpAny_bind (wpAny_pure (wpAny_pure ⟨_,rfl,wpAny_pure h⟩))) jN)
  |exact wpAny_bind (wpAny_bind (m:=Builtin.Tuple.tupleExact _) (wpAny_newObj_type (wpAny_pure (wpAny_pure ⟨_,rfl,wpAny_pure h⟩)) jN))
  |exact wpAny_bind (wpAny_bind (m:=Builtin.Tuple.tupleExact _) (wpAny_newObj_type (wpAny_pure ⟨_,rfl,wpAny_pure h⟩) jN))
end
end HT
namespace L2
open PySem PySem.Spec PyProof.Rows
variable{X:Cx}{e:Expr}{pos:Pos}{n t':Nat}{α:Type}{a:Addr}{pins:List (Addr×Obj)}{Z:St}{H H':Hp}{s:Shared}{aN:List Value}{A:Around}{y x:V}{u:Value}{o:Option V}{w:World}{E:Value->Shared->Prop}{kvs:List (List Key×V)}{P:Program}
noncomputable abbrev TO:=St->Hp->(Option Int->Hp->Prop)->Prop
def PO(X:Cx)(e:Option Expr)(t:TO):Prop :=
 ∀(pins:List (Addr×Obj)) (s:Shared) (Z:St) (H:Hp) (Q:Option Int->Hp->Prop),Inv X pins Z H s->t Z H Q ->
  wpAny (model X.prog X.w) X.A (evalPart e X.env) (λu s'=>∃o H',Inv X pins Z H' s'/\IsPart u o/\Q o H') X.xe s
def MR:TO:=λ_ H Q=>Q none H
def QK(t:TE):TO:=λZ H Q=>t Z H λx H1=>∃i,x=.int i/\Q (some i) H1
section
variable{te:TE}{lo hi:Option Expr}{tl th:TO}{p2:Pos}
theorem uV:PO X none MR:=by
 intro pins s Z H Q I h;rw[evalPart_none];exact ah ⟨none,H,I,.none,h⟩
theorem Fn(h:PE X e te):PO X (some e) (QK te):=by
 intro pins s Z H Q I hw;rw[evalPart_some];refine cb (h pins s Z H _ I hw) λu s1 aV=>?_;obtain⟨x,H1,I1,r1,q1⟩:=aV;obtain⟨i,rfl,q⟩:=q1;obtain⟨t,rfl⟩:=r1;exact⟨some i,H1,I1,.int i t,q⟩
def sZ(X:Cx)(r:V->Option Int->Option Int->Hp->VK->Prop):Prop :=
 ∀(pins:List (Addr×Obj)) (s:Shared) (Z:St) (H:Hp) (x:V) (v vl vu:Value) (lo hi:Option Int) (sl:Addr) (Q:VK),Inv X pins Z H s->RelV x v->s.heap.IsSliceOf sl vl vu .none->IsPart vl lo->IsPart vu hi->r x lo hi H Q ->
  ∃T id,typeLookup (.type T) "__getitem__"=pure (some (.builtin id))/\s.TypeIs v T/\wpAny (model X.prog X.w) X.A (getItem v (.ref sl)) (EP X pins Z Q) X.xe s
def Gj(r:V->Option Int->Option Int->Hp->VK->Prop)(te:TE)(tl th:TO):TE:=λZ H Q=>te Z H λx H1=>tl Z H1 λl H2=>th Z H2 λu H3=>r x l u H3 Q
theorem yO{r:V->Option Int->Option Int->Hp->VK->Prop}(hr:sZ X r)(he:PE X e te)(hl:PO X lo tl)(hu:PO X hi th):PE X (.Subscript e (.Slice lo hi none p2) pos) (Gj r te tl th):=by
 intro pins s Z H Q I h;refine Subscript_ (cb (he pins s Z H _ I h) λv s1 aV=>?_);obtain⟨x,H1,I1,r1,q1⟩:=aV;refine wpAny_Slice (cb (hl pins s1 Z H1 _ I1 q1) λvl s2 ⟨l,H2,I2,pl,q2⟩=>cb (hu pins s2 Z H2 _ I2 q2) λvu s3 aV=>?_);obtain⟨u,H3,I3,pu,q3⟩:=aV;rw[evalPart_none];refine ah ?_;have I4:Inv X pins Z H3 { s3 with heap:=s3.heap.push { cls:=.type "slice",data:=.fields #[vl,vu,.none] } }:=I3.kept (t':=s3.toks) λb ob q=>ai _ q;obtain⟨T,id,hT,ht,hg⟩:=hr pins { s3 with heap:=s3.heap.push { cls:=.type "slice",data:=.fields #[vl,vu,.none] } } Z H3 x v vl vu l u s3.heap.objs.size Q I4 r1 (Heap.IsSliceOf.new ..) pl pu q3;show wpAny (model X.prog X.w) X.A (subscriptTail e (.Slice lo hi none p2) v (.ref s3.heap.objs.size)) (EP X pins Z Q) X.xe { s3 with heap:=s3.heap.push { cls:=.type "slice",data:=.fields #[vl,vu,.none] } };exact tail_any (ops:=[.ref s3.heap.objs.size,v]) ht hT hg (by with_unfolding_all rfl)
def Q9(xs:List V)(lo hi:Option Int):List V:=(xs.drop (HT.df xs.length 0 lo)).take (HT.df xs.length xs.length hi-HT.df xs.length 0 lo)
theorem DT(xs:List V)(lo hi:Option Int):(Q9 xs lo hi).length<=xs.length:=by
 unfold Q9;rw[cX,gw];omega
def Oi(K:PySem.W.Frag):V->Option Int->Option Int->Hp->VK->Prop:=λx lo hi H Q=>∃a xs,x=.ref a/\gD K H a xs /\
 ¬(HT.df xs.length 0 lo=0/\HT.df xs.length xs.length hi=xs.length)/\∀p,H p=none->Q (.ref p) (upd H p (.tup (Q9 xs lo hi)))
theorem Kg:sZ X (Oi X.K):=by
 intro pins s Z H x v vl vu lo hi sl Q I rx hs pl pu h;obtain⟨a,xs,rfl,hx,hw,q⟩:=h;cases rx;obtain⟨aN,r,ht,hz⟩:=I.tuple hx;have hlen:aN.toArray.size=xs.length:=by rw[ax];exact r.length.symm
 refine⟨"tuple",_,bE.lookup,ht.typeIs,?_⟩;refine HT.RT ht hs pl pu (by rw[hlen];exact hw) ?_ (by rw[hlen];exact hz);rw[hlen];refine⟨.ref s.heap.objs.size,_,I.laid (t':=s.toks) (o:=.tup (Q9 xs lo hi)) (λb ob q=>ai _ q) (aj _) ?_,rfl,q _ (I.bz.fresh (aj _))⟩;exact⟨aL (DT xs lo hi) hz,_,(r.drop (HT.df xs.length 0 lo)).take (HT.df xs.length xs.length hi-HT.df xs.length 0 lo),L4.new _ _⟩
def Qs(K:PySem.W.Frag):R2:=λx y H Q=>∃a b xs ys,x=.ref a/\y=.ref b/\gD K H a xs/\gD K H b ys/\xs≠[]/\xs.length+ys.length<=sizeLine /\
 (ys=[]->Q (.ref a) H)/\(ys≠[]->∀p,H p=none->Q (.ref p) (upd H p (.tup (xs++ys))))
theorem Vals.P1{xs:List V}{us:List Value}(r:Vals xs us):us=[]↔xs=[]:=by
 cases r with
 |nil=>simp
 |cons _ _=>simp
theorem LL:eP X (binaryOp .Add) (Qs X.K):=by
 intro pins s Z H x y v u Q I rx ry h;obtain⟨a,b,xs,ys,rfl,rfl,ha,hb,hx,hz,q1,q2⟩:=h;cases rx;cases ry;obtain⟨aN,r1,p1,_⟩:=I.tuple ha;obtain⟨kW,r2,p2,_⟩:=I.tuple hb;refine HT.K' p1 p2 (λz=>hx (r1.P1.mp z)) (λz=>⟨.ref a,H,I,rfl,q1 (r2.P1.mp z)⟩) (λz=>?_) (by rw[<- r1.length,<- r2.length];exact hz);refine⟨.ref s.heap.objs.size,_,I.laid (t':=s.toks) (o:=.tup (xs++ys)) (λb ob q=>ai _ q) (aj _) ?_,rfl,q2 (λw=>z (r2.P1.mpr w)) _ (I.bz.fresh (aj _))⟩;exact⟨by rw[bt];exact hz,_,r1.append r2,L4.new _ _⟩
end
def lH(n:Nat)(i:Int):Option Nat:=if 0<=i then(if i<n then some i.toNat else none) else if -(n:Int)<=i then some (i+n).toNat else none
def iu{α:Type}(xs:List α)(i:Int):Option α:=(lH xs.length i).bind λj=>xs[j]?
theorem EZ{i:Int}{j:Nat}(h:lH n i=some j):seqIndex? i n=some j/\j<n/\-(n:Int)<=i/\i<n:=by
 unfold lH at h;by_cases h0:0<=i
 ·rw[aJ h0] at h;by_cases h1:i<n
  ·rw[aJ h1] at h;have e:i.toNat=j:=aG h;exact⟨by rw[seqIndex_of h0 h1,e],by omega,by omega,h1⟩
  ·rw[aB h1] at h;cases h
 ·rw[aB h0] at h;by_cases h1:-(n:Int)<=i
  ·rw[aJ h1] at h;have e:(i+n).toNat=j:=aG h;exact⟨by rw[Ye (by omega) h1,e],by omega,h1,by omega⟩
  ·rw[aB h1] at h;cases h
theorem yn{xs:List α}{i:Int}{v:α}(h:iu xs i=some v):∃j,seqIndex? i xs.length=some j/\xs[j]?=some v/\j<xs.length/\-(xs.length:Int)<=i/\i<xs.length:=by
 unfold iu at h;cases e:lH xs.length i with
 |none=>rw[e] at h;cases h
 |some j =>
  rw[e] at h;obtain⟨h1,h2,h3,h4⟩:=EZ e;exact⟨j,h1,h,h2,h3,h4⟩
theorem V5{xs:List α}{j:Nat}{v:α}(h:xs[j]?=some v):iu xs (j:Int)=some v:=by
 have hj:j<xs.length:=(az.mp h).1;have e:lH xs.length (j:Int)=some j:=by
  unfold lH;rw[aJ (by omega),aJ (by omega)];simp
 unfold iu;rw[e];exact h
def yk(b:Expr):Prop:=∀o i,subscripted b false o i=operate [o,i] (getItem o i)
def oV(X:Cx)(r:R2):Prop :=
 ∀(value slice:Expr) (pins:List (Addr×Obj)) (s:Shared) (Z:St) (H:Hp) (x y:V) (v u:Value) (Q:VK),Inv X pins Z H s->RelV x v->RelV y u->r x y H Q ->
  subscripted slice false v u=operate [v,u] (getItem v u)->wpAny (model X.prog X.w) X.A (subscriptTail value slice v u) (EP X pins Z Q) X.xe s
def jV(X:Cx)(id:String)(r:V->List V->Hp->VK->Prop):Prop :=
 ∀(pins:List (Addr×Obj)) (s:Shared) (Z:St) (H:Hp) (x:V) (xs:List V) (v:Value) (us:List Value) (Q:VK),Inv X pins Z H s->RelV x v->Vals xs us->r x xs H Q ->
  wpAny (model X.prog X.w) X.A (call (.builtin id) (v::us)) (EP X pins Z Q) X.xe s
section
variable{a b:Expr}{ta tb:TE}
theorem Cj{r:R2}(hr:oV X r)(ha:PE X a ta)(hb:PE X b tb)(hs:yk b):PE X (.Subscript a b pos) (oZ r ta tb):=by
 intro pins s Z H Q I h;exact Subscript_ (zL ha hb I h λv u s2 x y H2 I2 rx ry q=>hr a b pins s2 Z H2 x y v u Q I2 rx ry q (hs _ _))
def Ob(K:PySem.W.Frag):R2:=λx y H Q=>∃p xs i v,x=.ref p/\y=.int i/\eW K H p xs/\iu xs i=some v/\Q v H
def Od(K:PySem.W.Frag):R2:=λx y H Q=>∃p xs i v,x=.ref p/\y=.int i/\gD K H p xs/\iu xs i=some v/\Q v H
def Oc:R2:=λx y H Q=>∃z i c,x=.str z/\y=.int i/\z.length<=sizeLine/\iu z.cps.toList i=some c/\Q (.str ⟨#[c]⟩) H
theorem Lq:oV X (Ob X.K):=by
 intro value slice pins s Z H x y v u Q I rx ry h hs;obtain⟨p,xs,i,z,rfl,rfl,hq,he,q⟩:=h;cases rx;obtain⟨t,rfl⟩:=ry;obtain⟨aN,r,pl,hz⟩:=I.list hq;obtain⟨j,h1,h2,h3,h4,h5⟩:=yn he;obtain⟨w,ew,eO⟩:=r.get h2;have hl:=r.length;have hn:=Q6;have fin:EP X pins Z Q w s:=⟨z,H,I,eO,q⟩
 by_cases h0:0<=i
 ·have hj:i.toNat=j:=by
   rw[seqIndex_of h0 h5] at h1;exact aG h1
  exact item_listR pl.isList h0 (by omega) (by rw[hj];simpa using ew) fin hs
 ·have hj:(i+(aN.toArray.size:Int)).toNat=j:=by
   rw[Ye (by omega) h4] at h1;rw[ax,<- hl];exact aG h1
  exact subscriptTail_builtinR (x:=w) pl.isList.typeIs slot_list_getitem.lookup
   (wpAny_getItem_list_neg (Q:=λr s'=>r=w/\EP X pins Z Q r s') pl.isList (by omega) (by rw[ax]<;>omega) (by omega) (by rw[hj];simpa using ew) ⟨rfl,fin⟩) hs
theorem II:oV X (Od X.K):=by
 intro value slice pins s Z H x y v u Q I rx ry h hs;obtain⟨p,xs,i,z,rfl,rfl,hq,he,q⟩:=h;cases rx;obtain⟨t,rfl⟩:=ry;obtain⟨aN,r,pl,hz⟩:=I.tuple hq;obtain⟨j,h1,h2,h3,h4,h5⟩:=yn he;obtain⟨w,ew,eO⟩:=r.get h2;have hl:=r.length;have hn:=Q6;have fin:EP X pins Z Q w s:=⟨z,H,I,eO,q⟩
 exact subscriptTail_builtinR (x:=w) pl.typeIs slot_tuple_getitem.lookup
  (getItem_tuple (j:=j) (Q:=λr s'=>r=w/\EP X pins Z Q r s') pl (by omega) (by omega) (by rw[ax,<- hl];exact h1) (by simpa using ew) ⟨rfl,fin⟩) hs
theorem IH:oV X Oc:=by
 intro value slice pins s Z H x y v u Q I rx ry h hs;obtain⟨z,i,c,rfl,rfl,hz,he,q⟩:=h;obtain⟨t,rfl⟩:=rx;obtain⟨t',rfl⟩:=ry;obtain⟨j,h1,h2,h3,h4,h5⟩:=yn he;have hl:z.cps.toList.length=z.length:=by simp[Str.length]
 rw[hl] at h1 h4 h5;have hn:=Q6;exact tail_any (typeIs_str s z t) slot_str_getitem.lookup (getItem_str (c:=c) (by
  have e1:decide (i < -(2 ^ 63:Int))=false:=aw (by omega);have e2:decide (i>=2 ^ 63)=false:=aw (by omega);rw [e1,e2,Bool.or_false]) (by rw [h1];simpa using h2) ⟨.str ⟨#[c]⟩,H,I.tok _,⟨_,rfl⟩,q⟩) hs
theorem Ub(aN:List Value)(n j:Nat)(u:Value):Obj.mapSeq (·.setIfInBounds j u) { cls:=.type "list",data:=.seq aN.toArray n }={ cls:=.type "list",data:=.seq (aN.set j u).toArray n }:=by
 simp[Obj.mapSeq]
theorem Inv.lst{pins:List (Addr×Obj)}{Z:St}{H:Hp}{s:Shared}{p:Addr}{xs:List V}(I:Inv X pins Z H s)(h:H p=some (.lst xs)) :
  ∃(aN:List Value) (n:Nat),Vals xs aN/\s.heap.get? p=some { cls:=.type "list",data:=.seq aN.toArray n }/\xs.length<=sizeLine:=by
 obtain⟨z,aN,n,r,e⟩:=I.bz p _ h;exact⟨aN,n,r,e,z⟩
theorem Inv.IW{p:Addr}{xs ys:List V}{its':List Value}{n':Nat}{f:Obj->Obj}(I:Inv X pins Z H s)(h:H p=some (.lst xs))(ho:s.heap.get? p=some { cls:=.type "list",data:=.seq aN.toArray n })(hf:f { cls:=.type "list",data:=.seq aN.toArray n }={ cls:=.type "list",data:=.seq its'.toArray n' })(r:Vals ys its')(hz:ys.length<=sizeLine)(t:Nat) :
  Inv X pins Z (upd H p (.lst ys)) { s with heap:=s.heap.update p f,toks:=t }:=by
 have e:(s.heap.update p f).get? p=some { cls:=.type "list",data:=.seq its'.toArray n' }:=by
  rw[aT f ho (by rw[hf]<;>rfl),hf]
 refine I.write (x:=p) (e:=p) (by rw[h];trivial) (.inl rfl) (λb u hb q=>(bT _ _ (ba hb)).trans q) ⟨_,e⟩ ?_;exact⟨hz,its',n',r,e⟩
def Qv:V->V->V->Hp->(Hp->Prop)->Prop:=λo i v H Q=>∃p xs k j,o=.ref p/\i=.int k/\H p=some (.lst xs)/\lH xs.length k=some j/\Q (upd H p (.lst (xs.set j v)))
theorem set_list:xW X Qv:=by
 intro pins s Z H o i v ov iv u Q I ro ri rv h;obtain⟨p,xs,k,j,rfl,rfl,hp,hj,q⟩:=h;cases ro;obtain⟨t,rfl⟩:=ri;obtain⟨aN,n,r,ho,hz⟩:=I.lst hp;obtain⟨h1,h2,h3,h4⟩:=EZ hj;have hl:=r.length;have hn:=Q6;have I':Inv X pins Z (upd H p (.lst (xs.set j v))) { s with heap:=s.heap.update p (Obj.mapSeq (·.setIfInBounds j u)) } :=
  I.IW hp ho (Ub aN n j u) (r.set rv j) (by rw[List.length_set];exact hz) s.toks
 by_cases h0:0<=k
 ·have hk:k.toNat=j:=by
   rw[seqIndex_of h0 h4] at h1;exact aG h1
  exact PySem.W.ki_setAt ho h0 (by omega) (by rw[ax,<- hl];exact h4) (by rw[hk];exact⟨_,I',q⟩)
 ·have hk:(k+(aN.toArray.size:Int)).toNat=j:=by
   rw[Ye (by omega) h3] at h1;rw[ax,<- hl];exact aG h1
  exact PySem.W.ki_setBack ho (by omega) (by rw[ax,<- hl];exact h3) (by omega) (by rw[hk];exact⟨_,I',q⟩)
theorem Ro(lo hi:Option Int)(n:Nat):(sliceBounds lo hi none n).1=((HT.df n 0 lo:Nat):Int)/\(sliceBounds lo hi none n).2.1=((HT.df n n hi:Nat):Int)/\(sliceBounds lo hi none n).2.2=1:=by
 refine⟨?_,?_,rfl⟩
 ·cases lo with
  |none=>simp[sliceBounds,HT.df]
  |some i =>
   simp only[sliceBounds,HT.df,Option.getD_none,show(1:Int)>0 by decide,if_true];by_cases h:i<0
   ·simp only[h,if_true]<;>omega
   ·simp only[h,if_false]<;>omega
 ·cases hi with
  |none=>simp[sliceBounds,HT.df]
  |some i =>
   simp only[sliceBounds,HT.df,Option.getD_none,show(1:Int)>0 by decide,if_true];by_cases h:i<0
   ·simp only[h,if_true]<;>omega
   ·simp only[h,if_false]<;>omega
theorem RA(aN:List Value)(lo hi:Option Int):slicePick aN.toArray lo hi none=((aN.drop (HT.df aN.length 0 lo)).take (HT.df aN.length aN.length hi-HT.df aN.length 0 lo)).toArray:=by
 obtain⟨h1,h2,h3⟩:=Ro lo hi aN.toArray.size;unfold slicePick;rw[h1,h2,h3];simp only[sliceRange_one,pick_run,List.size_toArray]<;>rfl
def Oh(K:PySem.W.Frag):V->Option Int->Option Int->Hp->VK->Prop:=λx lo hi H Q=>∃a xs,x=.ref a/\eW K H a xs/\∀p,H p=none->Q (.ref p) (upd H p (.lst (Q9 xs lo hi)))
theorem MI:sZ X (Oh X.K):=by
 intro pins s Z H x v vl vu lo hi sl Q I rx hs pl pu h;obtain⟨a,xs,rfl,hx,q⟩:=h;cases rx;obtain⟨aN,r,ht,hz⟩:=I.list hx;have hlen:=r.length;refine⟨"list",_,slot_list_getitem.lookup,ht.isList.typeIs,?_⟩;refine wpAny_getItem_list_slice ht.isList hs pl pu .none (by simp) ?_ (by rw[ax]<;>omega);rw[RA,<- hlen];refine⟨.ref s.heap.objs.size,_,I.laid (t':=s.toks) (o:=.lst (Q9 xs lo hi)) (λb ob q=>ai _ q) (aj _) ?_,rfl,q _ (I.bz.fresh (aj _))⟩;exact⟨aL (DT xs lo hi) hz,_,0,(r.drop (HT.df xs.length 0 lo)).take (HT.df xs.length xs.length hi-HT.df xs.length 0 lo),au _ rfl⟩
def K9:V->Bool
 |.aX=>true
 |.bl _=>true
 |.int _=>true
 |.str _=>true
 |_=>false
def lP:V->V->Bool
 |.aX,.aX=>true
 |.bl a,.bl b=>a==b
 |.bl a,.int b=>(if a then 1 else 0)==b
 |.int a,.bl b=>a==(if b then 1 else 0)
 |.int a,.int b=>a==b
 |.str a,.str b=>a==b
 |_,_=>false
theorem Ri{v:Value}(ry:RelV y u)(rx:RelV x v)(fy:K9 y=true)(fx:K9 x=true):SeqAt.EqAt A s u v (lP y x):=by
 cases y with
 |aX =>
  cases ry;cases x with
  |aX=>cases rx;exact SeqAt.EqAt.same _
  |bl b=>cases rx;exact SeqAt.EqAt.none_bool b
  |int b=>obtain⟨t,rfl⟩:=rx;exact SeqAt.EqAt.none_int b t
  |str b=>obtain⟨t,rfl⟩:=rx;exact SeqAt.EqAt.none_str b t
  |_=>exact absurd (show false=true from fx) Bool.false_ne_true
 |bl a =>
  cases ry;cases x with
  |aX=>cases rx;exact SeqAt.EqAt.bool_none a
  |bl b=>cases rx;exact SeqAt.EqAt.bool_bool a b
  |int b=>obtain⟨t,rfl⟩:=rx;exact SeqAt.EqAt.bool_int a b t
  |str b=>obtain⟨t,rfl⟩:=rx;exact SeqAt.EqAt.bool_str a b t
  |_=>exact absurd (show false=true from fx) Bool.false_ne_true
 |int a =>
  obtain⟨t',rfl⟩:=ry;cases x with
  |aX=>cases rx;exact SeqAt.EqAt.int_none a t'
  |bl b=>cases rx;exact SeqAt.EqAt.int_bool a t' b
  |int b=>obtain⟨t,rfl⟩:=rx;exact SeqAt.EqAt.int_int a t' b t
  |str b=>obtain⟨t,rfl⟩:=rx;exact SeqAt.EqAt.int_str a t' b t
  |_=>exact absurd (show false=true from fx) Bool.false_ne_true
 |str a =>
  obtain⟨t',rfl⟩:=ry;cases x with
  |aX=>cases rx;exact SeqAt.EqAt.str_none a t'
  |bl b=>cases rx;exact SeqAt.EqAt.str_bool a t' b
  |int b=>obtain⟨t,rfl⟩:=rx;exact SeqAt.EqAt.str_int a t' b t
  |str b=>obtain⟨t,rfl⟩:=rx;exact SeqAt.EqAt.str_str a t' b t
  |_=>exact absurd (show false=true from fx) Bool.false_ne_true
 |_=>exact absurd (show false=true from fy) bu
def pC(x:V)(u:Value):Bool:=match u with
 |.none=>lP .aX x
 |.bool b=>lP (.bl b) x
 |.int i _=>lP (.int i) x
 |.str z _=>lP (.str z) x
 |_=>false
theorem zE(r:RelV y u)(f:K9 y=true):pC x u=lP y x:=by
 cases y with
 |aX=>cases r;rfl
 |bl b=>cases r;rfl
 |int i=>obtain⟨t,rfl⟩:=r;rfl
 |str z=>obtain⟨t,rfl⟩:=r;rfl
 |_=>exact absurd (show false=true from f) bu
theorem yN{A:Around}{s:Shared}{x:V}{v:Value}(rx:RelV x v)(fx:K9 x=true):∀{xs:List V} {us:List Value},Vals xs us->xs.all K9=true->∀u∈us,SeqAt.EqAt A s u v (pC x u)
 |_,_,.nil,_=>λu hu=>by cases hu
 |y::xs,u::us,.cons r t,f=>λu' hu=>by
  rw[iW,aY] at f;rcases ay.mp hu with rfl|hu
  ·rw[zE r f.1];exact Ri r rx f.1 fx
  ·exact yN rx fx t f.2 u' hu
theorem Vb:m5 X (.builtin "len") (λxs H Q=>∃p ys,xs=[.ref p]/\(eW X.K H p ys\/gD X.K H p ys)/\Q (.int ys.length) H):=by
 intro pins s Z H xs us Q I r h;obtain⟨p,ys,rfl,hq,q⟩:=h;obtain⟨u,rfl,rx⟩:=vals1 r;cases rx;have hn:=Q6;rcases hq with hq|hq
 ·obtain⟨aN,r',pl,hz⟩:=I.list hq;have hlen:=r'.length;exact Calls.call_len_list pl.isList (by simp only[List.size_toArray]<;>omega) ⟨.int ys.length,H,I.tok _,⟨s.toks+1,by rw[ax,hlen]⟩,q⟩
 ·obtain⟨aN,r',pl,hz⟩:=I.tuple hq;have hlen:=r'.length;exact len_tuple pl (by simp only[List.size_toArray]<;>omega) ⟨.int ys.length,H,I.tok _,⟨s.toks+1,by rw[ax,hlen]⟩,q⟩
theorem Vc:m5 X (.builtin "len") (λxs H Q=>∃z,xs=[.str z]/\z.length<=sizeLine/\Q (.int z.length) H):=by
 intro pins s Z H xs us Q I r h;obtain⟨z,rfl,hz,q⟩:=h;obtain⟨u,rfl,t,rfl⟩:=vals1 r;have hn:=Q6;exact len_str (by omega) ⟨.int z.length,H,I.tok _,⟨_,rfl⟩,q⟩
theorem Vd:m5 X (.type "list") (λxs H Q=>∃p ys,xs=[.ref p]/\(eW X.K H p ys\/gD X.K H p ys)/\∀l,H l=none->Q (.ref l) (upd H l (.lst ys))):=by
 intro pins s Z H xs us Q I r h;obtain⟨p,ys,rfl,hq,q⟩:=h;obtain⟨u,rfl,rx⟩:=vals1 r;cases rx;have fin:∀(aN:List Value),Vals ys aN->ys.length<=sizeLine->∀(h':Heap) (c':Nat),(∀b o',s.heap.get? b=some o'->h'.get? b=some o') ->
   h'.get? s.heap.objs.size=some { cls:=.type "list",dict:=none,data:=.seq aN.toArray c',slots:=#[] }->EP X pins Z Q (.ref s.heap.objs.size) { s with heap:=h' }:=λaN r' hz h' c' kp e =>
  ⟨.ref s.heap.objs.size,_,I.laid (t':=s.toks) kp (aj _) (show k6 X.prog X.w _ h' _ (.lst ys) from⟨hz,aN,c',r',e⟩),rfl,q _ (I.bz.fresh (aj _))⟩
 rcases hq with hq|hq
 ·obtain⟨aN,r',pl,hz⟩:=I.list hq;have hlen:=r'.length;obtain⟨o,ho,hc,n,hd⟩:=pl.isList;exact call_list_seq p (.inl rfl) ho hc hd (λh' c' kp e=>fin aN r' hz h' c' kp e) (by simp only[List.size_toArray]<;>omega)
 ·obtain⟨aN,r',pl,hz⟩:=I.tuple hq;have hlen:=r'.length;obtain⟨o,ho,hc,n,hd⟩:=pl;exact call_list_seq p (.inr rfl) ho hc hd (λh' c' kp e=>fin aN r' hz h' c' kp e) (by simp only[List.size_toArray]<;>omega)
def mj(K:PySem.W.Frag)(T:String)(x:V)(H:Hp):Prop:=match x with
 |.str _=>T="str"
 |.int _=>T="int"
 |.ref p=>(T="list"/\∃xs,eW K H p xs)\/(T="tuple"/\∃o,K.lookup p=some o/\o.cls=.type "tuple"/\o.dict=none) \/
   (T="dict"/\((∃kvs,H p=some (.dK kvs))\/∃kvs,H p=some (.dT kvs)))\/(T="set"/\∃S n,H p=some (.set S n))
 |_=>False
theorem EL{T:String}{v:Value}(I:Inv X pins Z H s)(r:RelV x v)(ty:mj X.K T x H) :
  s.TypeIs v T/\∀a,v=.ref a->∃ob,s.heap.get? a=some ob/\ob.dict=none:=by
 cases x with
 |str z =>
  obtain⟨t,rfl⟩:=r;cases (show T="str" from ty);exact⟨typeIs_str s z t,λ_ e=>nomatch e⟩
 |int i =>
  obtain⟨t,rfl⟩:=r;cases (show T="int" from ty);exact⟨kF s i t,λ_ e=>nomatch e⟩
 |ref p =>
  cases r;rcases ty with⟨rfl,xs,hq⟩|⟨rfl,o,hk,hc,hd⟩|⟨rfl,hk⟩|⟨rfl,S,n,hk⟩
  ·obtain⟨aN,_,pl,_⟩:=I.list hq;refine⟨pl.isList.typeIs,λa e=>?_⟩;cases e;obtain⟨o,n,e,c,hd,_⟩:=pl;exact⟨o,e,hd⟩
  ·refine⟨⟨o,I.fm p o hk,hc⟩,λa e=>?_⟩;cases e;exact⟨o,I.fm _ o hk,hd⟩
  ·have z:∃o,s.heap.get? p=some o/\o.ExactDict:=by
    rcases hk with⟨kvs,hk⟩|⟨kvs,hk⟩
    ·obtain⟨_,_,_,_,o,_,_,e,ex,_⟩:=I.bz p _ hk;exact⟨o,e,ex⟩
    ·obtain⟨_,_,_,_,o,_,_,e,ex,_⟩:=I.bz p _ hk;exact⟨o,e,ex⟩
   obtain⟨o,e,ex⟩:=z;refine⟨⟨o,e,ex.1⟩,λa e2=>?_⟩;cases e2;exact⟨o,e,ex.2.1⟩
  ·obtain⟨o,_,_,_,e,ex,_⟩:=I.bz p _ hk;refine⟨⟨o,e,ex.1⟩,λa e2=>?_⟩;cases e2;exact⟨o,e,ex.2.1⟩
 |_=>exact False.elim ty
def Oz(K:PySem.W.Frag)(T:String)(r:V->List V->Hp->VK->Prop)(to:TE):TE:=λZ H Q=>to Z H λx H1=>mj K T x H1/\r x [] H1 Q
def Gn(K:PySem.W.Frag)(T:String)(r:V->List V->Hp->VK->Prop)(to:TE)(t:TA):TE:=λZ H Q=>to Z H λx H1=>mj K T x H1/\t Z H1 λxs H2=>r x xs H2 Q
variable{o:Expr}{es:List Expr}{to:TE}{t:TA}{name:Str}{apos dy:Pos}{T id:String}{r:V->List V->Hp->VK->Prop}
theorem Jq(pa:PlainAttrs T)(slot:Slot T name id)(og:typeOf (.builtin id)=pure (.type "method_descriptor"))(hm:jV X id r)(ho:PE X o to)(ft:attributeBase o name X.env (eval o X.env)=eval o X.env:=by rfl)(fq:(apos.endLine==dy.line)=true:=by rfl):PE X (.Call (.Attribute o name apos) [] [] dy) (Oz X.K T r to):=by
 intro pins s Z H Q I h;refine wpAny_Call_method0_late ft fq (cb (ho pins s Z H _ I h) λv s1 aV=>?_);obtain⟨x,H1,I1,r1,ty,q1⟩:=aV;obtain⟨h1,h2⟩:=EL I1 r1 ty;exact⟨T,id,pa,slot,og,h1,h2,eR rfl (PySem.evalArgs_none (hm pins s1 Z H1 x [] v [] Q I1 r1 .nil q1))⟩
theorem Qj(pa:PlainAttrs T)(slot:Slot T name id)(og:typeOf (.builtin id)=pure (.type "method_descriptor"))(hm:jV X id r)(ho:PE X o to)(ha:PA X (e::es) t)(ft:attributeBase o name X.env (eval o X.env)=eval o X.env:=by rfl)(jF:((backTo dy (starEach (e :: es) X.env)).all (λx=>!x.1) && (backToKw dy (keywordEach [] X.env)).all (λx=>x.1.isSome)
   && decide ((e :: es).length + ([]:List Keyword).length + (if ([]:List Keyword).isEmpty then 0 else 1) < 30))=true:=by rfl)(fq:(apos.endLine==dy.line)=true:=by rfl)(hs:starEach (e::es) X.env=(false,eval e X.env)::starEach es X.env:=by rfl)(dP:(backTo dy (starEach es X.env)).any (·.1)=false:=by rfl) :
  PE X (.Call (.Attribute o name apos) (e::es) [] dy) (Gn X.K T r to t):=by
 intro pins s Z H Q I h;refine Yd ft jF fq rfl (cb (ho pins s Z H _ I h) λv s1 aV=>?_);obtain⟨x,H1,I1,r1,ty,q1⟩:=aV;obtain⟨h1,h2⟩:=EL I1 r1 ty;refine⟨T,id,pa,slot,og,h1,h2,?_⟩;have hA:=ha dy pins s1 Z H1 _ I1 q1;rw[hs] at hA ⊢;refine eR (by show(false||(backTo dy (starEach es X.env)).any (·.1))=false;rw[dP]<;>rfl) (fI ?_);exact cb hA λus s2 ⟨vs,H2,I2,r2,q2⟩=>hm pins s2 Z H2 x vs v us Q I2 r1 r2 q2
end
def vk(X:Cx)(id:String)(r:V->List V->Hp->VK->Prop):Prop :=
 ∀(pins:List (Addr×Obj)) (s:Shared) (Z:St) (H:Hp) (x:V) (xs:List V) (v:Value) (us:List Value) (Q:VK),Inv X pins Z H s->RelV x v->Vals xs us->r x xs H Q ->
  wpAny (model X.prog X.w) X.A (call (.builtin id) (v::us)) (EP X pins Z Q) X.xe s
theorem Vals.one{us:List Value}(h:Vals [x] us):∃u,us=[u]/\RelV x u:=by
 cases h with
 |cons r h =>
  cases h;exact⟨_,rfl,r⟩
theorem Vals.zero:∀{us:List Value},Vals [] us->us=[]
 |_,.nil=>rfl
theorem Vals.dropLast{xs:List V}{us:List Value}(h:Vals xs us):Vals xs.dropLast us.dropLast:=by
 induction h with
 |nil=>exact .nil
 |cons r t ih =>
  cases t with
  |nil=>exact .nil
  |cons q t'=>exact .cons r ih
theorem Vals.eraseIdx:∀{xs:List V} {us:List Value} (i:Nat),Vals xs us->Vals (xs.eraseIdx i) (us.eraseIdx i)
 |_,_,_,.nil=>.nil
 |_,_,0,.cons _ t=>t
 |_,_,i+1,.cons r t=>.cons r (Vals.eraseIdx i t)
theorem Vals.reverse{xs:List V}{us:List Value}(h:Vals xs us):Vals xs.reverse us.reverse:=by
 induction h with
 |nil=>exact .nil
 |cons r t ih=>rw[fT,fT];exact Vals.append ih (.cons r .nil)
theorem Vals.rep{xs:List V}{us:List Value}(h:Vals xs us):∀k:Nat,Vals (List.replicate k xs).flatten (List.replicate k us).flatten
 |0=>.nil
 |k+1=>by
  rw[bO,bO,cN,cN];exact Vals.append h (Vals.rep h k)
theorem TB(l:List α):l.eraseIdx (l.length-1)=l.dropLast:=by
 induction l with
 |nil=>rfl
 |cons a r ih =>
  cases r with
  |nil=>rfl
  |cons b r =>
   have e:(a::b::r).length-1=((b::r).length-1)+1:=by
    have h1:(a::b::r).length=r.length+2:=rfl;have h2:(b::r).length=r.length+1:=rfl;omega
   rw[e,List.eraseIdx_cons_succ,ih]
   all_goals rfl
theorem Dm{α:Type}:∀(l:List α) (i:Nat),(l.eraseIdx i).length<=l.length
 |[],_=>aj _
 |_::_,0=>fS _
 |_::r,i+1=>Nat.succ_le_succ (Dm r i)
theorem foldl_rep(aN:List Value):∀(k:Nat) (acc:List Value),
  List.foldl (λx1 x2=>x1++x2) acc.toArray (List.replicate k aN.toArray)=(acc++(List.replicate k aN).flatten).toArray
 |0,acc=>by simp
 |k+1,acc=>by
  have e:acc.toArray++aN.toArray=(acc++aN).toArray:=by simp
  have e2:(acc++aN)++(List.replicate k aN).flatten=acc++(List.replicate (k+1) aN).flatten:=by
   rw[bO,cN,eF]
  rw[<- e2,<- foldl_rep aN k (acc++aN),<- e,bO,List.foldl_cons]
section
variable{l:Addr}{xs ys:List V}
theorem Inv.Q5{its':List Value}{f:Array Value->Array Value}{t':Nat}(I:Inv X pins Z H s)(hH:H l=some (.lst xs))(e:s.heap.get? l=some { cls:=.type "list",data:=.seq aN.toArray n })(hf:f aN.toArray=its'.toArray)(hv:Vals ys its')(hz:ys.length<=sizeLine) :
  Inv X pins Z (upd H l (.lst ys)) { s with heap:=s.heap.update l (Obj.mapSeq f),toks:=t' }:=by
 have q:=Yh e f;rw[hf] at q;refine I.write (x:=l) (e:=l) (by rw[hH];exact trivial) (.inl rfl) (λb' u hb hu=>(bT s.heap (Obj.mapSeq f) (ba hb)).trans hu) ⟨_,q⟩ ?_;exact⟨hz,its',_,hv,q⟩
theorem Inv.By{t':Nat}(I:Inv X pins Z H s)(hv:Vals ys aN)(hz:ys.length<=sizeLine) :
  Inv X pins Z (upd H s.heap.objs.size (.lst ys)) { s with heap:=s.heap.push { cls:=.type "list",data:=.seq aN.toArray },toks:=t' } :=
 I.laid (λ_ _ q=>ai _ q) (aj _) ⟨hz,aN,0,hv,au _ rfl⟩
theorem Inv.fresh(I:Inv X pins Z H s):H s.heap.objs.size=none:=I.bz.fresh (aj _)
theorem Inv.oQ(I:Inv X pins Z H s)(hH:H l=some (.lst xs)):xs.length<=sizeLine/\∃(aN:List Value) (n:Nat),Vals xs aN/\xs.length=aN.length/\s.heap.get? l=some { cls:=.type "list",data:=.seq aN.toArray n }:=by
 obtain⟨z,aN,n,r,e⟩:=I.bz l _ hH;exact⟨z,aN,n,r,r.length,e⟩
theorem V'(h:n<=sizeLine):Builtin.List.listTooLong n=false:=by
 unfold Builtin.List.listTooLong;exact aw (by omega)
end
def Mo:V->List V->Hp->VK->Prop:=λx vs H Q=>∃l xs y,x=.ref l/\vs=[y]/\H l=some (.lst xs)/\xs.length<sizeLine/\Q .aX (upd H l (.lst (xs++[y])))
theorem SF:vk X "list.append" Mo:=by
 intro pins s Z H x vs v us Q I rx rv h;obtain⟨l,xs,y,rfl,rfl,hH,hz,q⟩:=h;cases rx;obtain⟨u,rfl,ru⟩:=rv.one;obtain⟨z,aN,n,r,hl,e⟩:=I.oQ hH;refine cL F.slot_list_append ⟨_,e,rfl⟩ F.entry_list_append (F.args_list_append_2 _ _) (Xg l aN.toArray n u (by rw[ax];omega)) ⟨e,?_⟩;refine⟨.aX,_,I.Q5 (its':=aN++[u]) hH e (by simp) (r.append (.cons ru .nil)) ?_,rfl,q⟩;rw[bt,gT];omega
def Oe:V->List V->Hp->VK->Prop:=λx vs H Q=>∃l xs y,x=.ref l/\vs=[]/\H l=some (.lst xs)/\xs[xs.length-1]?=some y/\Q y (upd H l (.lst xs.dropLast))
theorem Ja:vk X "list.pop" Oe:=by
 intro pins s Z H x vs v us Q I rx rv h;obtain⟨l,xs,y,rfl,rfl,hH,hy,q⟩:=h;cases rx;have wa:=rv.zero;subst wa;obtain⟨z,aN,n,r,hl,e⟩:=I.oQ hH;obtain⟨u,hu,ru⟩:=r.get hy;have vW:aN.toArray[aN.toArray.size-1]?=some u:=by
  show aN.toArray[aN.length-1]?=some u;rw[<- eN,<- hl];exact hu
 refine cL F.slot_list_pop ⟨_,e,rfl⟩ F.entry_list_pop (F.args_list_pop_1 _) (MeetsSeq.list_pop_last l aN.toArray n u vW (by rw[ax];omega)) ⟨e,?_⟩;refine⟨y,_,I.Q5 (its':=aN.dropLast) hH e ?_ r.dropLast ?_,ru,q⟩
 ·show aN.toArray.eraseIdxIfInBounds (aN.toArray.size-1)=aN.dropLast.toArray;rw[ax,jI,TB]
 ·rw[List.length_dropLast];omega
def JP:V->List V->Hp->VK->Prop:=λx vs H Q=>∃l xs i k y,x=.ref l/\vs=[.int i]/\H l=some (.lst xs)/\-(2 ^ 63)<=i/\i<2 ^ 63/\seqIndex? i xs.length=some k/\xs[k]?=some y/\Q y (upd H l (.lst (xs.eraseIdx k)))
theorem VX:vk X "list.pop" JP:=by
 intro pins s Z H x vs v us Q I rx rv h;obtain⟨l,xs,i,k,y,rfl,rfl,hH,h1,h2,hk,hy,q⟩:=h;cases rx;obtain⟨u,rfl,ru⟩:=rv.one;obtain⟨t,rfl⟩:=ru;obtain⟨z,aN,n,r,hl,e⟩:=I.oQ hH;obtain⟨w,hw,eO⟩:=r.get hy;refine cL F.slot_list_pop ⟨_,e,rfl⟩ F.entry_list_pop (F.args_list_pop_2 _ _)
  (MeetsSeq.list_pop_at l aN.toArray n i t k w (fitsIndex_both h1 h2) (by rw[ax,<- hl];exact hk) (by rw[<- eN];exact hw) (by rw[ax];omega)) ⟨e,?_⟩
 refine⟨y,_,I.Q5 (its':=aN.eraseIdx k) hH e ?_ (r.eraseIdx k) ?_,eO,q⟩
 ·show aN.toArray.eraseIdxIfInBounds k=(aN.eraseIdx k).toArray;rw[jI]
 ·have:=Dm xs k;omega
def JO:V->List V->Hp->VK->Prop:=λx vs H Q=>∃l xs,x=.ref l/\vs=[]/\H l=some (.lst xs)/\Q .aX (upd H l (.lst []))
theorem VW:vk X "list.clear" JO:=by
 intro pins s Z H x vs v us Q I rx rv h;obtain⟨l,xs,rfl,rfl,hH,q⟩:=h;cases rx;have wa:=rv.zero;subst wa;obtain⟨z,aN,n,r,hl,e⟩:=I.oQ hH;refine cL F.slot_list_clear ⟨_,e,rfl⟩ F.entry_list_clear (F.args_list_clear_1 _) (AutoSeq1.list_clear_list_0 l aN.toArray n (by rw[ax];omega)) ⟨e,?_⟩;exact⟨.aX,_,I.Q5 (its':=[]) (ys:=[]) hH e rfl .nil (bY _),rfl,q⟩
def Oa:R2:=λx y H Q=>∃l b xs zs,x=.ref l/\y=.ref b/\H l=some (.lst xs)/\H b=some (.lst zs)/\xs.length+zs.length<=sizeLine/\∀p,H p=none->Q (.ref p) (upd H p (.lst (xs++zs)))
theorem Jg:eP X (binaryOp .Add) Oa:=by
 intro pins s Z H x y v u Q I rx ry h;obtain⟨l,b,xs,zs,rfl,rfl,hH,hB,hz,q⟩:=h;cases rx;cases ry;obtain⟨z,aN,n,r,hl,e⟩:=I.oQ hH;obtain⟨z2,kW,n2,r2,pv,e2⟩:=I.oQ hB;refine PySem.P.add_list e e2 ?_ (by rw[ax,ax];omega);have ea:aN.toArray++kW.toArray=(aN++kW).toArray:=by simp
 rw[ea];exact⟨.ref _,_,I.By (t':=s.toks) (r.append r2) (by rw[bt];omega),rfl,q _ I.fresh⟩
def Of:R2:=λx y H Q=>∃l k xs,x=.ref l/\y=.int k/\H l=some (.lst xs)/\-(2 ^ 63)<=k/\k<2 ^ 63/\xs.length*k.toNat<=sizeLine /\
 ∀p,H p=none->Q (.ref p) (upd H p (.lst (List.replicate k.toNat xs).flatten))
theorem len_rep(xs:List α)(k:Nat):(List.replicate k xs).flatten.length=k*xs.length:=by
 induction k with
 |zero=>simp
 |succ k ih=>rw[bO,cN,bt,ih,Nat.succ_mul,Nat.add_comm]
theorem Jl:eP X (binaryOp .Mult) Of:=by
 intro pins s Z H x y v u Q I rx ry h;obtain⟨l,k,xs,rfl,rfl,hH,h1,h2,hz,q⟩:=h;cases rx;obtain⟨t,rfl⟩:=ry;obtain⟨z,aN,n,r,hl,e⟩:=I.oQ hH;have hlen:aN.toArray.size*k.toNat<=sizeLine:=by rw[ax,<- hl];exact hz
 have wD:¬aN.toArray.size*k.toNat>(2 ^ 63-1) / 8:=by
  have:(sizeLine:Nat)<=(2 ^ 63-1) / 8:=by decide
  omega
 have wB:¬(!Builtin.List.listFitsIndex k)=true:=by
  rw[fitsIndex_both h1 h2];exact bu
 have qT:¬Builtin.List.listTooLong (aN.toArray.size*k.toNat)=true:=by
  rw[V' hlen];exact bu
 have wo:List.foldl (λx1 x2=>x1++x2) #[] (List.replicate (if aN.toArray.isEmpty=true then 0 else k.toNat) aN.toArray)=(List.replicate k.toNat aN).flatten.toArray:=by
  have f0:∀m:Nat,List.foldl (λx1 x2=>x1++x2) #[] (List.replicate m aN.toArray)=(List.replicate m aN).flatten.toArray:=λm=>by
   have:=foldl_rep aN m [];rw[List.nil_append] at this;exact this
  rw[f0];cases aN with
  |nil=>simp
  |cons a r'=>rw[if_neg (by simp)]
 refine Ae (T:="list") (U:="int") (by decide) ⟨_,e,rfl⟩ (λs'=>kF s' k t) noFill_list_mul F.fills_int_mul iX repeat_list F.slot_int_index.lookup
  (cL iX (kF s k t) F.entry_int_rmul (F.args_int_rmul_2 _ _) (int___rmul___int_list k t l aN.toArray n)
   ⟨e,rfl,⟨_,e,rfl⟩,cL F.slot_list_mul ⟨_,e,rfl⟩ F.entry_list_mul (F.args_list_mul_2 _ _) (AutoListH.list___mul___list_int_3 l aN.toArray n k t wB wD qT) ⟨e,?_⟩⟩)
 rw[wo];exact⟨.ref _,_,I.By (t':=s.toks) (r.rep k.toNat) (by rw[len_rep,qb];exact hz),rfl,q _ I.fresh⟩
section
variable{κ:Type}[DecidableEq κ]
def L7(kvs:List (κ×V))(k:κ):Option V:=(kvs.find? λkv=>decide (kv.1=k)).map (·.2)
def putK(kvs:List (κ×V))(k:κ)(v:V):List (κ×V) :=
 if(kvs.any λkv=>decide (kv.1=k))=true then kvs.map (λkv=>if kv.1=k then(kv.1,v) else kv) else kvs++[(k,v)]
theorem yT{p:κ×V}{r:List (κ×V)}{k:κ}(e:p.1=k):L7 (p::r) k=some p.2:=by simp[L7,List.find?_cons,e]
theorem yS{p:κ×V}{r:List (κ×V)}{k:κ}(e:¬p.1=k):L7 (p::r) k=L7 r k:=by simp[L7,List.find?_cons,e]
theorem CQ(k:κ):∀kvs:List (κ×V),(kvs.any λkv=>decide (kv.1=k))=(L7 kvs k).isSome
 |[]=>rfl
 |p::r=>by
  rw[iV];by_cases e:p.1=k
  ·simp only[yT e,decide_eq_true e,Bool.true_or,Option.isSome_some]
  ·rw[yS e,aw e,Bool.false_or];exact CQ k r
theorem U0(kvs:List (κ×V))(k:κ)(v:V):(putK kvs k v).length<=kvs.length+1:=by
 unfold putK;split
 ·rw[av];omega
 ·rw[bt,cE,List.length_nil];omega
theorem A3.N5{u:Option Value}(r:A3 o u):o.isSome=u.isSome:=by
 cases o with
 |none=>cases u with
  |none=>rfl
  |some _=>exact(show False from r).elim
 |some _=>cases u with
  |none=>exact(show False from r).elim
  |some _=>rfl
theorem A3.getD{o:Option V}{u:Option Value}{d:V}{d':Value}(r:A3 o u)(rd:RelV d d'):RelV (o.getD d) (u.getD d'):=by
 cases o with
 |none=>cases u with
  |none=>exact rd
  |some _=>exact(show False from r).elim
 |some _=>cases u with
  |none=>exact(show False from r).elim
  |some _=>exact r
theorem KV.val{kvs:List (κ×V)}{vs:List (κ×Value)}(r:KV kvs vs)(k:κ):A3 (L7 kvs k) (valueAt vs k):=by
 unfold KV at r
 induction r with
 |nil=>exact True.intro
 |@cons p q ps qs h t ih =>
  obtain⟨h1,h2⟩:=h;by_cases e:p.1=k
  ·have e':q.1=k:=h1.symm.trans e;have b:valueAt (q::qs) k=some q.2:=by simp[valueAt,List.find?_cons,e']
   rw[yT e,b];exact h2
  ·have e':¬q.1=k:=λz=>e (h1.trans z);have b:valueAt (q::qs) k=valueAt qs k:=by simp[valueAt,List.find?_cons,e']
   rw[yS e,b];exact ih
theorem KV.any{kvs:List (κ×V)}{vs:List (κ×Value)}(r:KV kvs vs)(k:κ):(kvs.any λkv=>decide (kv.1=k))=vs.any λkv=>decide (kv.1=k):=by
 unfold KV at r
 induction r with
 |nil=>rfl
 |cons h t ih=>rw[iV,iV,ih,h.1]
theorem KV.zQ{kvs:List (κ×V)}{vs:List (κ×Value)}(r:KV kvs vs)(k:κ)(ry:RelV y u) :
  KV (kvs.map λkv=>if kv.1=k then(kv.1,y) else kv) (vs.map λkv=>if kv.1=k then(kv.1,u) else kv):=by
 unfold KV at r ⊢
 induction r with
 |nil=>exact .nil
 |@cons p q ps qs h t ih =>
  rw[aW,aW];refine .cons ?_ ih;obtain⟨h1,h2⟩:=h;by_cases e:p.1=k
  ·rw[aJ e,aJ (h1.symm.trans e)];exact⟨h1,ry⟩
  ·rw[aB e,aB (λz=>e (h1.trans z))];exact⟨h1,h2⟩
theorem KV.put{kvs:List (κ×V)}{vs:List (κ×Value)}(r:KV kvs vs)(k:κ)(ry:RelV y u):KV (putK kvs k y) (stored vs k u):=by
 unfold putK stored;rw[r.any k];by_cases e:(vs.any λkv=>decide (kv.1=k))=true
 ·rw[aJ e,aJ e];exact r.zQ k ry
 ·rw[aB e,aB e];exact Paired.snoc r ⟨rfl,ry⟩
theorem KV.keys{kvs:List (κ×V)}{vs:List (κ×Value)}(r:KV kvs vs):kvs.map (·.1)=vs.map (·.1):=by
 unfold KV at r
 induction r with
 |nil=>rfl
 |cons h t ih=>rw[aW,aW,ih,h.1]
theorem KV.length{kvs:List (κ×V)}{vs:List (κ×Value)}(r:KV kvs vs):kvs.length=vs.length:=kr r
end
theorem pU{k:Key}(r:RelV (kV k) u):(l9 P w).is k u=true:=by
 cases k with
 |inl i=>obtain⟨t,e⟩:=(show ∃t,u=Value.int i t from r);subst e;exact US P w i t
 |inr x=>obtain⟨t,e⟩:=(show ∃t,u=Value.str x t from r);subst e;exact UT P w x t
theorem Dk{P:Program}{w:World}:∀{ks:List Key} {us:List Value},Vals (ks.map kV) us->ItemsAre (l9 P w) ks us
 |[],_,r=>by rw[qe] at r;cases r;exact .nil
 |k::ks,_,r=>by
  rw[aW] at r;cases r with
  |cons h t=>exact .cons (pU h) (Dk t)
noncomputable abbrev KT(H:Hp):List (List Key×V)->List (List Key×Addr×Value)->Prop:=Paired λp q=>p.1=q.1/\H q.2.1=some (.tup (p.1.map kV))/\RelV p.2 q.2.2
theorem KT.val{xs:List (List Key×Addr×Value)}(r:KT H kvs xs)(k:List Key):A3 (L7 kvs k) ((atKey xs k).map (·.2)):=by
 induction r with
 |nil=>exact True.intro
 |@cons p q ps qs h t ih =>
  obtain⟨h1,_,h2⟩:=h;by_cases e:p.1=k
  ·have e':q.1=k:=h1.symm.trans e;have b:atKey (q::qs) k=some q.2:=by simp[atKey,List.find?_cons,e']
   rw[yT e,b];exact h2
  ·have e':¬q.1=k:=λz=>e (h1.trans z);have b:atKey (q::qs) k=atKey qs k:=by simp[atKey,List.find?_cons,e']
   rw[yS e,b];exact ih
theorem KT.zQ{xs:List (List Key×Addr×Value)}(r:KT H kvs xs)(k:List Key)(ry:RelV y u) :
  KT H (kvs.map λkv=>if kv.1=k then(kv.1,y) else kv) (xs.map (putAt k u)):=by
 induction r with
 |nil=>exact .nil
 |@cons p q ps qs h t ih =>
  rw[aW,aW];refine .cons ?_ ih;obtain⟨h1,h2,h3⟩:=h;unfold putAt;by_cases e:p.1=k
  ·rw[aJ e,aJ (h1.symm.trans e)];exact⟨h1,h2,ry⟩
  ·rw[aB e,aB (λz=>e (h1.trans z))];exact⟨h1,h2,h3⟩
theorem KT.put{xs:List (List Key×Addr×Value)}(r:KT H kvs xs)(k:List Key){b:Addr}(hb:H b=some (.tup (k.map kV)))(ry:RelV y u) :
  KT H (putK kvs k y) (storedH xs k b u):=by
 have e:(kvs.any λkv=>decide (kv.1=k))=(atKey xs k).isSome:=by
  rw[CQ,(r.val k).N5,jx]
 unfold putK storedH;rw[e];by_cases q:(atKey xs k).isSome=true
 ·rw[aJ q,aJ q];exact r.zQ k ry
 ·rw[aB q,aB q];exact Paired.snoc r ⟨rfl,hb,ry⟩
theorem KT.keeps{xs:List (List Key×Addr×Value)}(r:KT H kvs xs)(ht:∀b ys,H b=some (.tup ys)->H' b=some (.tup ys)):KT H' kvs xs :=
 Paired.Bz r λ_ _ z=>⟨z.1,ht _ _ z.2.1,z.2.2⟩
section
variable{h:Heap}
theorem Cm{u:HO}(ok:fz P w H h)(e:Rd H a u):k6 P w H h a u:=e.ok ok
theorem pS{kvs:List (Key×V)}(ok:fz P w H h)(e:Rd H a (.dK kvs)):kvs.length<=sizeLine/\(a==sysModules)=false/\∃vs,KV kvs vs/\h.DictOf (l9 P w) a vs :=
 show k6 P w H h a (.dK kvs) from Cm ok e
theorem uj{kvs:List (Key×V)}(ok:fz P w H h)(e:H a=some (.dK kvs)):kvs.length<=sizeLine/\(a==sysModules)=false/\∃vs,KV kvs vs/\h.DictOf (l9 P w) a vs:=pS ok (.inl e)
theorem sR{ks:List Key}(ok:fz P w H h)(e:H a=some (.tup (ks.map kV))):(tupleKind (l9 P w)).is h ks a:=by
 obtain⟨_,aN,r,o,h1,h2,⟨n,h3⟩,_⟩:=(show k6 P w H h a (.tup (ks.map kV)) from ok a _ e)
 exact⟨o,aN.toArray,n,h1,h2,h3,by simpa using Dk r⟩
theorem sC(ok:fz P w H h)(e:Rd H a (.dT kvs)):kvs.length<=sizeLine/\(a==sysModules)=false /\
  ∃xs,KT H kvs xs/\h.DictOfH (tupleKind (l9 P w)) a xs:=by
 obtain⟨z,y,xs,r,o,es,ep,h1,h2,h3,h4,h5⟩:=(show k6 P w H h a (.dT kvs) from Cm ok e)
 refine⟨z,y,xs,r,o,es,ep,h1,h2,h3,h4,λx hx=>?_,h5⟩;have all:∀{l:List (List Key×V)} {m:List (List Key×Addr×Value)},KT H l m->∀x∈m,(tupleKind (l9 P w)).is h x.1 x.2.1:=by
  intro l m q
  induction q with
  |nil=>intro x hx;exact nomatch hx
  |@cons p q ps qs hq t ih =>
   intro x hx;rcases ay.mp hx with e|hx
   ·subst e;exact sR ok (by rw[<- hq.1];exact hq.2.1)
   ·exact ih x hx
 exact all r x hx
theorem Pl(ok:fz P w H h)(e:H a=some (.dT kvs)):kvs.length<=sizeLine/\(a==sysModules)=false /\
  ∃xs,KT H kvs xs/\h.DictOfH (tupleKind (l9 P w)) a xs:=sC ok (.inl e)
end
def U4(H:Hp)(a:Addr)(y:V)(r:Option V):Prop :=
 (∃kvs k,Rd H a (.dK kvs)/\y=kV k/\r=L7 kvs k)\/∃kvs k b,Rd H a (.dT kvs)/\y=.ref b/\H b=some (.tup (k.map kV))/\r=L7 kvs k
def uX(H:Hp)(a:Addr)(y v:V)(H':Hp):Prop :=
 (∃kvs k,H a=some (.dK kvs)/\y=kV k/\kvs.length<sizeLine/\H'=upd H a (.dK (putK kvs k v))) \/
 ∃kvs k b,H a=some (.dT kvs)/\y=.ref b/\H b=some (.tup (k.map kV))/\kvs.length<sizeLine/\H'=upd H a (.dT (putK kvs k v))
theorem U4.k{H:Hp}{a:Addr}{kvs:List (Key×V)}{k:Key}(e:H a=some (.dK kvs)):U4 H a (kV k) (L7 kvs k):=.inl ⟨kvs,k,.inl e,rfl,rfl⟩
theorem uX.k{H:Hp}{a:Addr}{kvs:List (Key×V)}{k:Key}{v:V}(e:H a=some (.dK kvs))(hl:kvs.length<sizeLine):uX H a (kV k) v (upd H a (.dK (putK kvs k v))):=.inl ⟨kvs,k,e,rfl,hl,rfl⟩
section
variable{v:V}{r:Value}
theorem Inv.big(I:Inv X pins Z H s):sysModules<s.heap.objs.size:=by
 have h:mainGlobals<s.heap.objs.size:=(I.mod.glob.keeps I.bk).lt;exact cx (by decide) h
theorem Sg{Q:Value->Shared->Prop}(hu:A.units+1<cLine)(I:Inv X pins Z H s)(g:U4 H a y (some v))(ry:RelV y u)(h:∀w' s',Inv X pins Z H s'->RelV v w'->Q w' s') :
  wpAny (model X.prog X.w) A (getItem (.ref a) u) Q E s:=by
 rcases g with⟨kvs,k,e,ey,l⟩|⟨kvs,k,b,e,ey,eb,l⟩
 ·subst ey;obtain⟨z,hd,vs,rel,dd⟩:=pS I.bz e;obtain⟨w',hw,eO⟩:=A3.some_of (v:=v) (o:=valueAt vs k) (by rw[l];exact rel.val k);exact wpAny_getItem_of (pU ry) dd.mapOf hw (h w' _ (I.tok _) eO)
 ·subst ey;cases (show u=Value.ref b from ry);obtain⟨z,hd,xs,rel,dd⟩:=sC I.bz e;obtain⟨w',hw,eO⟩:=A3.some_of (v:=v) (o:=(atKey xs k).map (·.2)) (by rw[l];exact rel.val k);obtain⟨p,hp,qQ⟩:=ae.mp hw;refine wpAny_getItem_heap (gp hu) (sR I.bz eb) dd hp ?_;rw[qQ];exact h w' _ (I.tok _) eO
theorem Nv{Q:Value->Shared->Prop}(hu:A.units+1<cLine)(I:Inv X pins Z H s)(g:U4 H a y o)(ry:RelV y u)(h:∀s',Inv X pins Z H s'->Q (.bool o.isSome) s') :
  wpAny (model X.prog X.w) A (compareOp .In u (.ref a)) Q E s:=by
 rcases g with⟨kvs,k,e,ey,l⟩|⟨kvs,k,b,e,ey,eb,l⟩
 ·subst ey;obtain⟨z,hd,vs,rel,dd⟩:=pS I.bz e;refine wpAny_in_of (pU ry) hd dd.mapOf ?_;rw[<- (rel.val k).N5,<- l];exact h _ (I.tok _)
 ·subst ey;cases (show u=Value.ref b from ry);obtain⟨z,hd,xs,rel,dd⟩:=sC I.bz e;refine wpAny_in_heap (gp hu) (sR I.bz eb) hd dd ?_;have q:=(rel.val k).N5;rw[jx] at q;rw[<- q,<- l];exact h _ (I.tok _)
theorem Ld{Q:Value->Shared->Prop}(hu:A.units+1<cLine)(I:Inv X pins Z H s)(g:U4 H a y o)(ry:RelV y u)(h:∀s',Inv X pins Z H s'->Q (.bool (!o.isSome)) s') :
  wpAny (model X.prog X.w) A (compareOp .NotIn u (.ref a)) Q E s:=by
 rcases g with⟨kvs,k,e,ey,l⟩|⟨kvs,k,b,e,ey,eb,l⟩
 ·subst ey;obtain⟨z,hd,vs,rel,dd⟩:=pS I.bz e;refine wpAny_notIn_of (pU ry) hd dd.mapOf ?_;rw[<- (rel.val k).N5,<- l];exact h _ (I.tok _)
 ·subst ey;cases (show u=Value.ref b from ry);obtain⟨z,hd,xs,rel,dd⟩:=sC I.bz e;refine wpAny_notIn_heap (gp hu) (sR I.bz eb) hd dd ?_;have q:=(rel.val k).N5;rw[jx] at q;rw[<- q,<- l];exact h _ (I.tok _)
theorem yv{h':Heap}{t':Nat}{ob:HO}(I:Inv X pins Z H s)(mu:tm (H a))(hs:Heap.SameBut a s.heap h')(he:∃q,h'.get? a=some q)(new:k6 X.prog X.w (upd H a ob) h' a ob) :
  Inv X pins Z (upd H a ob) { s with heap:=h',toks:=t' } :=
 I.write (x:=a) (e:=a) mu (.inl rfl) (λb q hb z=>(hs.2 b hb).trans z) he new
theorem Eo{h':Heap}{kvs:List (Key×V)}{vs:List (Key×Value)}(z:kvs.length<=sizeLine)(hd:(a==sysModules)=false)(rel:KV kvs vs)(dd:h'.DictOf (l9 P w) a vs) :
  k6 P w H' h' a (.dK kvs):=⟨z,hd,vs,rel,dd⟩
theorem Si{Q:Unit->Shared->Prop}(hu:A.units+1<cLine)(I:Inv X pins Z H s)(g:uX H a y v H')(ry:RelV y u)(rv:RelV v r)(h:∀s',Inv X pins Z H' s'->Q () s') :
  wpAny (model X.prog X.w) A (setItem (.ref a) u r) Q E s:=by
 rcases g with⟨kvs,k,e,ey,l,eH⟩|⟨kvs,k,b,e,ey,eb,l,eH⟩
 ·subst ey eH;obtain⟨z,hd,vs,rel,dd⟩:=uj I.bz e;have hz:vs.length<=sizeLine:=by rw[<- rel.length];exact z
  have hl:(putK kvs k v).length<=sizeLine:=by have:=U0 kvs k v;omega
  refine wpAny_setItem_pairs (hsz:=hz) (pU ry) dd λh' oC hs=>h _ ?_;have he:∃q,h'.get? a=some q:=let ⟨q,_,_,hq,_⟩:=oC;⟨q,hq⟩
  exact yv I (by rw[e];exact True.intro) hs he (Eo hl hd (rel.put k rv) oC)
 ·subst ey eH;cases (show u=Value.ref b from ry);obtain⟨z,hd,xs,rel,dd⟩:=Pl I.bz e;have hz:xs.length<=sizeLine:=by rw[<- kr rel];exact z
  have hl:(putK kvs k v).length<=sizeLine:=by have:=U0 kvs k v;omega
  refine wpAny_setItem_heap (hsz:=hz) (gp hu) (sR I.bz eb) dd λh' oC hs=>h _ ?_;obtain⟨q,es,ep,hq,h2,h3,h4,_,h5⟩:=oC;refine yv I (by rw[e];exact True.intro) hs ⟨q,hq⟩ ⟨hl,hd,_,(rel.put k eb rv).keeps λc ys ec=>?_,q,es,ep,hq,h2,h3,h4,h5⟩;rw[f7 (P' ec e (λz=>nomatch z))];exact ec
end
section
variable{kvs:List (Key×V)}
theorem Pj{Q:Value->Shared->Prop}(I:Inv X pins Z H s)(e:Rd H a (.dK kvs))(h:∀t s',Inv X pins Z H s'->Q (.int kvs.length t) s'):wpAny (model X.prog X.w) A (call (.builtin "len") [.ref a]) Q E s:=by
 obtain⟨z,hd,vs,rel,dd⟩:=pS I.bz e;refine call_len_dict hd dd (by rw[<- rel.length];rw[jw] at z;omega) ?_;rw[<- rel.length];exact h _ _ (I.tok _)
end
theorem UC(I:Inv X pins Z H s)(g:U4 H a y o):s.TypeIs (.ref a) "dict":=by
 rcases g with⟨kvs,k,e,_,_⟩|⟨kvs,k,b,e,_,_,_⟩
 ·obtain⟨_,_,vs,_,dd⟩:=pS I.bz e;exact dd.typeIs
 ·obtain⟨_,_,xs,_,dd⟩:=sC I.bz e;exact dd.typeIs
theorem FH(h:Heap)(hb:sysModules<h.objs.size):k6 P w H (h.push { cls:=.type "dict",data:=.dict #[] }) h.objs.size (.dK []) :=
 ⟨bY _,cT.mpr (ba (aI hb)),[],.nil,Heap.DictOf.new h⟩
def Ks:TE:=λ_ H Q=>∀p,H p=none->Q (.ref p) (upd H p (.dK []))
theorem Wh:PE X (.Dict [] [] pos) Ks:=λpins s Z H Q I h =>
 wpAny_Dict_empty ⟨.ref s.heap.objs.size,_,I.laid (a:=s.heap.objs.size) (o:=.dK []) (t':=s.toks) (λ_ _ q=>ai _ q) (aj _) (FH s.heap I.big),rfl,h _ (I.bz.fresh (aj _))⟩
def uI:List (TE×TE)->St->Hp->(List (V×V)->Hp->Prop)->Prop
 |[],_,H,Q=>Q [] H
 |(tk,tv)::r,Z,H,Q=>tk Z H λx H1=>tv Z H1 λy H2=>uI r Z H2 λps H3=>Q ((x,y)::ps) H3
noncomputable abbrev VV:List (V×V)->List (Value×Value)->Prop:=Paired λp q=>RelV p.1 q.1/\RelV p.2 q.2
def tf(X:Cx)(pos:Pos)(keys:List (Option Expr))(values:List Expr)(gA:List (TE×TE)):Prop :=
 ∀(pins:List (Addr×Obj)) (s:Shared) (Z:St) (H:Hp) (Q:List (V×V)->Hp->Prop),Inv X pins Z H s->uI gA Z H Q ->
  wpAny (model X.prog X.w) X.A (evalPairs (pairTrees keys values X.env pos)) (λvs s'=>∃ps H',Inv X pins Z H' s'/\VV ps vs/\Q ps H') X.xe s
theorem Mf:tf X pos [] [] []:=λpins s Z H Q I h=>pairTrees_nil_walk ⟨[],H,I,.nil,h⟩
theorem Ws{k v:Expr}{ks:List (Option Expr)}{vs:List Expr}{tk tv:TE}{gA:List (TE×TE)}(hk:PE X k tk)(hv:PE X v tv)(hr:tf X pos ks vs gA) :
  tf X pos (some k::ks) (v::vs) ((tk,tv)::gA):=λpins s Z H Q I h =>
 pairTrees_cons_walk (cb (hk pins s Z H _ I h) λu s1 ⟨x,H1,I1,rx,q1⟩=>cb (hv pins s1 Z H1 _ I1 q1) λw2 s2 ⟨y,H2,I2,ry,q2⟩ =>
  cb (hr pins s2 Z H2 _ I2 q2) λws s3 ⟨ps,H3,I3,rel,q3⟩=>⟨(x,y) :: ps,H3,I3,.cons ⟨rx,ry⟩ rel,q3⟩)
def Q1(kvs more:List (Key×V)):List (Key×V):=more.foldl (λacc kv=>putK acc kv.1 kv.2) kvs
theorem KV.merge:∀{more:List (Key×V)} {rs:List (Key×Value)} {kvs:List (Key×V)} {vs:List (Key×Value)},KV more rs->KV kvs vs->KV (Q1 kvs more) (merged vs rs):=by
 intro more rs kvs vs r;unfold KV at r
 induction r generalizing kvs vs with
 |nil=>intro q;exact q
 |@cons p q ps qs h t ih =>
  intro r0;have e:KV (putK kvs p.1 p.2) (stored vs q.1 q.2):=by
   have:=r0.put p.1 h.2;rw[<- h.1];exact this
  exact ih e
theorem Ej:∀(more kvs:List (Key×V)),(Q1 kvs more).length<=kvs.length+more.length
 |[],kvs=>by show kvs.length<=kvs.length+0;omega
 |p::r,kvs=>by
  have h1:=Ej r (putK kvs p.1 p.2);have h2:=U0 kvs p.1 p.2;show(Q1 (putK kvs p.1 p.2) r).length<=_;rw[cE];omega
theorem DC{P:Program}{w:World}:∀{kvs:List (Key×V)} {ws:List (Value×Value)},VV (kvs.map λkv=>(kV kv.1,kv.2)) ws->∃rs,Carries (l9 P w) ws rs/\KV kvs rs
 |[],_,r=>by rw[qe] at r;cases r;exact⟨[],True.intro,.nil⟩
 |p::kvs,_,r=>by
  rw[aW] at r;cases r with
  |@cons a b as bs h t =>
   obtain⟨rs,c,q⟩:=DC (P:=P) (w:=w) t;obtain⟨b1,b2⟩:=b;exact⟨(p.1,b2)::rs,⟨pU h.1,rfl,c⟩,.cons ⟨rfl,h.2⟩ q⟩
def QH(gA:List (TE×TE)):TE:=λZ H Q=>∀p,H p=none->uI gA Z (upd H p (.dK [])) λps H2=>H2 p=some (.dK [])/\∃kvs:List (Key×V),ps=kvs.map (λkv=>(kV kv.1,kv.2))/\kvs.length<=15/\Q (.ref p) (upd H2 p (.dK (Q1 [] kvs)))
theorem LZ{keys:List (Option Expr)}{values:List Expr}{gA:List (TE×TE)}(h:tf X pos keys values gA)(jl:keys.all (·.isSome)=true)(hl:keys.length=values.length)(h0:keys≠[])(xw:keys.length<=15):PE X (.Dict keys values pos) (QH gA):=by
 intro pins s Z H Q I q;have hn:=I.bz.fresh (aj s.heap.objs.size);have I1:=I.laid (a:=s.heap.objs.size) (o:=.dK []) (h':=s.heap.push { cls:=.type "dict",data:=.dict #[] }) (t':=s.toks) (λ_ _ q=>ai _ q) (aj _) (FH s.heap I.big);refine wpAny_Dict_walk (knd:=l9 X.prog X.w) jl hl h0 xw (cb (h pins _ Z _ _ I1 (q _ hn)) λws s2 aV=>?_);obtain⟨ps,H2,I2,rel,e,kvs,ep,lk,q2⟩:=aV;subst ep;obtain⟨rs,c,rk⟩:=DC (P:=X.prog) (w:=X.w) rel;obtain⟨z,hd,Xo,r0,dd⟩:=uj I2.bz e;cases r0;refine⟨rs,c,dd,λh' oC hs=>⟨.ref s.heap.objs.size,_,?_,rfl,q2⟩⟩;have hz:(Q1 [] kvs).length<=sizeLine:=by
  have h1:=Ej kvs [];rw[List.length_nil] at h1;rw[jw];omega
 have he:∃q,h'.get? s.heap.objs.size=some q:=let ⟨q,_,_,hq,_⟩:=oC;⟨q,hq⟩
 exact yv I2 (by rw[e];exact True.intro) hs he (Eo hz hd (rk.merge .nil) oC)
end L2
namespace FY
open PySem PySem.W PySem.Calls PyProof.Rows
theorem RP{P:Params}{h:Heap}:∀(ns:List Int) (vs:List Value),WellAll P h vs (ns.map WData.int)->IntsAre vs ns:=by
 intro ns
 induction ns with
 |nil =>
  intro vs w;rw[qe] at w;cases w;exact .nil
 |cons n ns ih =>
  intro vs w;rw[aW] at w;cases w with
  |cons a b =>
   cases a;exact .cons _ _ (ih _ b)
theorem Tf{l:OpenLaw}{n:Nat}(hn:l.most=some n){P:Params}{h:Heap}{args:List WData}{vals:List Value}(mz:l.row.toRowW.claim.pre args=true)(vY:WellAll P h vals args) :
  ∃a vs ns,vals=[Value.ref a]/\args=[WData.list (ns.map WData.int)]/\h.get? a=some { cls:=.type "list",data:=.seq vs.toArray }/\IntsAre vs ns/\ns.length<=n:=by
 have GZ:WShape.hasAll [] args [.list .int]=true:=(pre_splitW mz).1;have hc:l.pre.holds [] { args:=args }=true:=(pre_splitW mz).2;obtain⟨d,r,rfl,h1,h2⟩:=hasAllW_cons GZ;obtain rfl:=hasAllW_nil h2;obtain⟨xs,rfl,h3⟩:=hasW_list h1;obtain⟨ns,rfl⟩:=items_int h3;have hlen:ns.length<=n:=by
  unfold OpenLaw.pre at hc;have h4:(WTm.not (.lt (.lit (.int (n:Int))) (.len (.arg 0)))).holds [] { args:=[.list (ns.map .int)] }=true:=by
   have h4:=(holds_andW hc).1;rw[hn] at h4;exact h4
  have h5:=condW_of h4 (w_not (w_lt w_lit (w_len_list (w_arg rfl))));rw[av] at h5;refine jW λq=>?_;have q':(n:Int)<((ns.length:Nat):Int):=by omega
  first
   |(rw[aQ q'] at h5;exact absurd h5 (by decide))
   |(simp at h5;omega)
 cases vY with
 |cons w1 w2 =>
  cases w2;cases w1 with
  |list ho jl=>exact⟨_,_,ns,rfl,rfl,ho,RP ns _ jl,hlen⟩
theorem Tb(l:OpenLaw)(args:List WData):l.row.toRowW.claim.post args (.bool true) args=true :=
 postW_of (r:=l.row.toRowW) (X:=(true==true))
  (show WShape.has [] (.bool true) .bool=true by first|rfl|decide|simp[WShape.has,WShape.arms,WShape.armsAll])
  (show(WTm.eq .res (.lit (.bool true))).value [] { args:=args,res:=some (.bool true),after:=args }=some (.bool (true==true)) from w_eq_bool (w_res rfl) w_lit) rfl
theorem Uy{l:OpenLaw}{n:Nat}{q:Program}{loose:List Str}{XP:(Str->Option Value)->Heap->Prop}{YP:World->Heap->Prop}{d:DefRec}(hn:l.most=some n)(rh:d.params.defaults=[])(call:∀ (w:World) (cR bI:Shared) (mg mb:Str->Option Value) (fa:Addr) (o:Obj) (pm cd doc:Value) (a:Addr) (vs:List Value) (ns:List Int),
   Ground q loose [] XP w cR mg mb bI.heap->YP w bI.heap ->
   bI.heap.get? fa=some o->o.data=.func (docDef d.name d.params d.body d.scope pm cd doc)->bI.heap.CodeRec cd d.name->mg d.name=some (.ref fa) ->
   bI.heap.get? a=some { cls:=.type "list",data:=.seq vs.toArray }->IntsAre vs ns->ns.length<=n->bI.gens=#[] ->
   codeAny (model l.prog w) callerA (.call (.ref fa) ⟨[.ref a],[]⟩) (λr s'=>r=.ok (.ret (.bool true))/\OldK bI.heap s'.heap/\s'.os=bI.os/\AllBare s'.gens) bI) :
  WalkO q loose XP YP l.row.toRowW d [] (λf vs=>PySem.call f vs):=by
 intro w cR bI mg mb G Y fa o pm cd doc dV kV ho hd kh hD hmg hg args vals as mz Hk XE vY XI;obtain rfl:dV=.none:=Dflts.none hD rh;obtain rfl:kV=.none:=Dflts.noKw hD;obtain⟨a,vs,ns,rfl,rfl,hV,hints,hlen⟩:=Tf hn mz vY;refine enter_call (fV (call w cR bI mg mb fa o pm cd doc a vs ns G Y ho (fd_plain hd) kh hmg hV hints hlen hg) λr s' hq=>?_);obtain⟨rfl,h2,h3,h4⟩:=hq;exact⟨.inl ⟨.bool true,.bool true,[],rfl,λ_=>rfl,.bool true,Tb l _,λ_=>⟨List.Pairwise.nil,λ_ hm=>(nomatch hm)⟩⟩,h2,h3,h4⟩
end FY
namespace L2
open PySem PySem.Spec PyProof.Rows
variable{w:World}{x qual:Str}{X:Cx}{A:Around}{s:Shared}{elt iter tg:Expr}{ifs:List Expr}{scope:Scope}{pos:Pos}{cl:List (Str×Addr)}{C:Addr}{N':List Str}{d0:List Nat}{fp:List Addr}{g:TG}{tc:TT}{te:TE}
theorem Dx:∀{vs:List Value} {ns:List Int},IntsAre vs ns->Vals (ns.map V.int) vs
 |_,_,.nil=>.nil
 |_,_,.cons n t h=>.cons ⟨t,rfl⟩ (Dx h)
def uY(H:Hp):Prop:=∀b,H b=none\/∃o xs,H b=some (.iO o (.lst xs))
theorem VO{P:Program}{K:PySem.W.Frag}{mg mb:Str->Option Value}{CX:lF}{k:Nat}{fa a:Addr}{fd:FuncData}{sp:Sp}{bI:Shared}{vs:List Value}{ns:List Int}(KX:K.In bI.heap)(AR:bI.heap.Ns mainGlobals mg)(hb:bI.heap.Ns builtinsNs mb)(wG:∀x:Str,x≠"__name__"->mb x=bootBuiltins x)(wx:bI.heap.NoLimit)(hg:bI.gens=#[])(ha:bI.heap.get? a=some { cls:=.type "list",data:=.seq vs.toArray })(hi:IntsAre vs ns)(hl:ns.length<=sizeLine)(hr:n8 k callerA)(F:∀base:Heap,K.In base->base.Ns mainGlobals mg->fR P w K mg base CX k fa fd [x] sp)(rq:∀(s:Shared) (u:Value),BindsTo s fd ⟨[u],[]⟩ [(x,u)])(pq:∀H:Hp,uY H->eW K H a (ns.map V.int)->sp [.ref a] H (λv _=>v=.bl true) λ_ _ _=>False)(wO:∀H e s',CX [] H bI (λ_ _ _=>False) e s'->False) :
  codeAny (model P w) callerA (.call (.ref fa) ⟨[.ref a],[]⟩) (λr s'=>r=.ok (.ret (.bool true))/\OldK bI.heap s'.heap/\s'.os=bI.os/\AllBare s'.gens) bI:=by
 have rv:=Dx hi;have vR:=hi.length;have core:∀H:Hp,uY H->eW K H a (ns.map V.int)->fz P w H bI.heap->(∀b,H b≠none->b=a)->(H a≠none->K.lookup a=none) ->
   codeAny (model P w) callerA (.call (.ref fa) ⟨[.ref a],[]⟩) (λr s'=>r=.ok (.ret (.bool true))/\OldK bI.heap s'.heap/\s'.os=bI.os/\AllBare s'.gens) bI:=by
  intro H hO hS bz hA hK;have J8:∀{b:Addr} {o:Obj},bI.heap.get? b=some o->H b=none->(Y9 bI.heap H).get? b=some o:=λe n=>VH e n;have qy:∀{b:Addr} {o:Obj} {es:Array DictEntry} {ep:Nat},bI.heap.get? b=some o->o.data=.dict es ep->H b=none:=λ{b o es ep} e d=>by
   cases q:H b with
   |none=>rfl
   |some u =>
    have e':b=a:=hA b (by rw[q];simp);subst e';rw[ha] at e;cases e;have d':Data.seq vs.toArray _=Data.dict es ep:=d;cases d'
  have tR:∀{b:Addr} {m:Str->Option Value},bI.heap.Ns b m->(Y9 bI.heap H).Ns b m:=λ{b m} ⟨o,es,ep,e,d,r⟩=>⟨o,es,ep,J8 e (qy e d),d,r⟩
  have Bh:K.In (Y9 bI.heap H):=λb o e=>J8 (KX b o e) (by
   cases q:H b with
   |none=>rfl
   |some u =>
    have e':b=a:=hA b (by rw[q];simp);subst e';rw [hK (by rw [q];simp)] at e;cases e)
  have hM:Mod K mg (Y9 bI.heap H):=⟨Bh,tR AR,⟨mb,tR hb,wG⟩,let ⟨mc,h1,h2⟩:=wx;⟨mc,tR h1,h2⟩⟩
  have e0:oJ P w K mg (Y9 bI.heap H) callerA [] bI H:=⟨rfl,hM,λb o e=>LH e,Nat.le_of_eq (So _ _),trivial,λb hb=>absurd (show b∈([]:List Addr) from hb) (by simp),bz,.of_eq hg⟩
  refine fV ((F _ Bh (tR AR)).run callerA [] bI H ⟨[.ref a],[]⟩ [.ref a] [.ref a] _ _ hr e0 (rq bI (.ref a)) (.cons rfl .nil) (pq H hO hS)) λr s' h=>?_;cases r with
  |error e=>exact(wO H e s' h).elim
  |ok fl =>
   cases fl with
   |next=>exact False.elim h
   |brk=>exact False.elim h
   |cont=>exact False.elim h
   |ret u =>
    obtain⟨v,H',os,bare,un,wj,r',q⟩:=h;have q':v=.bl true:=q;subst q';obtain rfl:u=Value.bool true:=r';refine⟨rfl,OldK.of_keep λb o e=>?_,os,bare⟩;cases q:H b with
    |none=>exact un.keep b o e q (by intro z;exact absurd (show b∈([]:List Addr) from z) (by simp)) (by simp)
    |some u =>
     rcases hO b with z|⟨ob,xs,z⟩
     ·rw[q] at z;cases z
     ·have z2:=un.gy b ob _ z;obtain⟨e1,_⟩:=bz b _ z;obtain⟨e2,_⟩:=wj b _ z2;rw[e] at e1;cases e1;exact e2
 cases hk:K.lookup a with
 |some o =>
  have e:=KX a o hk;rw[ha] at e;cases e;refine core (λ_=>none) (λ_=>.inl rfl) (.inr ⟨_,vs.toArray,_,hk,rfl,rfl,rfl,by rw[ax,vR];exact hl,by simpa using rv⟩) (λb u z=>by have z':(none:Option HO)=some u:=z;cases z') (λb z=>absurd rfl z) λz=>absurd rfl z
 |none =>
  refine core (λb=>if b=a then some (.iO { cls:=.type "list",data:=.seq vs.toArray } (.lst (ns.map V.int))) else none) (λb=>?_) (.inl (.inr ⟨{ cls:=.type "list",data:=.seq vs.toArray },aJ rfl⟩)) (λb u z=>?_) (λb z=>?_) λ_=>hk
  ·by_cases hb:b=a
   ·exact .inr ⟨_,_,aJ hb⟩
   ·exact .inl (aB hb)
  ·by_cases hb:b=a
   ·have z':=(aJ hb).symm.trans z;cases z';subst hb;exact⟨ha,by rw[av];exact hl,vs,_,rv,ha⟩
   ·have z':=(aB hb).symm.trans z;cases z'
  ·by_cases hb:b=a
   ·exact hb
   ·exact absurd (aB hb) z
theorem Na{l:PySem.W.OpenLaw}{n k:Nat}{q:Program}{loose:List Str}{XP:(Str->Option Value)->Heap->Prop}{YP:World->Heap->Prop}{d:DefRec}{K:Params->PySem.W.Frag}{CX:World->lF}{sp:World->Sp}(hn:l.most=some n)(mB:n<=sizeLine)(rh:d.params.defaults=[])(hr:n8 k callerA)(hY:∀(w:World) (h:Heap),YP w h->(K w.params).In h)(F:∀ (w:World) (mg:Str->Option Value) (fa:Addr) (h:Heap),(K w.params).In h->h.Ns mainGlobals mg->mg d.name=some (.ref fa) ->
   ∃fd:FuncData,(∀(s:Shared) (u:Value),BindsTo s fd ⟨[u],[]⟩ [(x,u)]) /\
    ∀ base:Heap,(K w.params).In base->base.Ns mainGlobals mg->fR l.prog w (K w.params) mg base (CX w) k fa fd [x] (sp w))(pq:∀(w:World) (H:Hp) (a:Addr) (ns:List Int),ns.length<=n->uY H->eW (K w.params) H a (ns.map V.int)->sp w [.ref a] H (λv _=>v=.bl true) λ_ _ _=>False)(wO:∀(w:World) (H:Hp) (s:Shared) (e:Value) (s':Shared),CX w [] H s (λ_ _ _=>False) e s'->False) :
  PySem.W.WalkO q loose XP YP l.row.toRowW d [] (λf vs=>PySem.call f vs):=by
 refine FY.Uy hn rh λw cR bI mg mb fa o pm cd doc a vs ns G Y ho hd kh hmg hV hints hlen hg=>?_;have KX:=hY w _ Y;obtain⟨fd,hb,hF⟩:=F w mg fa _ KX G.T.g hmg;exact VO KX G.T.g G.T.b G.T.builtins G.T.nolimit hg hV hints (aL hlen mB) hr hF hb (λH hO hS=>pq w H a ns hlen hO hS) λH e s'=>wO w H bI e s'
def x6(s:Stmt):Arguments:=match s with
 |.FunctionDef _ a _ _ _ _ _ _ _ _=>a
 |_=>{ posonlyargs:=[],args:=[],vararg:=none,kwonlyargs:=[],kw_defaults:=[],kwarg:=none,defaults:=[] }
def m4(s:Stmt):List Stmt:=match s with
 |.FunctionDef _ _ b _ _ _ _ _ _ _=>b
 |_=>[]
def k9(s:Stmt):Scope:=match s with
 |.FunctionDef _ _ _ _ _ _ sc _ _ _=>sc
 |_=>{ kind:=.function,names:=[],isGenerator:=false,isCoroutine:=false }
structure nE(K:PySem.W.Frag)(x qual:Str)(st:Stmt)(f:Addr)(fd:FuncData):Prop where
 ex:∃(oc:Value) (od:Option Addr) (kV doc pm:Value) (an:Option Addr) (eU ct:Value) (ky:Array (Option Value)),
  fd=PySem.W.fnOf x qual (x6 st) (m4 st) (k9 st) .none kV doc pm an eU ct/\K.lookup f=some ⟨oc,od,.func fd,ky⟩/\PySem.W.codeIn K eU qual=true
 kp:PySem.W.keepIn K (.ref f)=true
section
variable{K:PySem.W.Frag}
theorem nE.binds{st:Stmt}{f:Addr}{fd:FuncData}{ps:List Str}(F:nE K x qual st f fd)(h:∀(kV doc pm:Value) (an:Option Addr) (eU ct:Value) (us:List Value),us.length=ps.length->bindArgs (PySem.W.fnOf x qual (x6 st) (m4 st) (k9 st) .none kV doc pm an eU ct) ⟨us,[]⟩=pure (ps.zip us)):Binds K fd ps []:=by
 obtain⟨oc,od,kV,doc,pm,an,eU,ct,ky,rfl,lk,kh⟩:=F.ex;exact .all (h kV doc pm an eU ct)
theorem Er{st:Stmt}{f:Addr}{oc:Value}{od an:Option Addr}{ky:Array (Option Value)}{kV doc pm eU ct:Value}(l:K.lookup f=some ⟨oc,od,.func (PySem.W.fnOf x qual (x6 st) (m4 st) (k9 st) .none kV doc pm an eU ct),ky⟩)(c:PySem.W.codeIn K eU qual=true)(k:PySem.W.keepIn K (.ref f)=true):nE K x qual st f (PySem.W.fnOf x qual (x6 st) (m4 st) (k9 st) .none kV doc pm an eU ct):=⟨⟨oc,od,kV,doc,pm,an,eU,ct,ky,rfl,l,c⟩,k⟩
end
theorem Sd:m5 X (.builtin "len") (λxs H Q=>∃a kvs,xs=[V.ref a]/\H a=some (.dK kvs)/\Q (.int kvs.length) H):=by
 intro pins s Z H xs us Q I r h;obtain⟨a,kvs,rfl,ha,q⟩:=h;obtain⟨u,rfl,ru⟩:=vals1 r;cases ru;exact Pj I (.inl ha) λt s' I'=>⟨.int kvs.length,H,I',⟨t,rfl⟩,q⟩
section
variable{prog:Program}{R:Result->Shared->Prop}
theorem Ve{target:Expr}{it acc:Value}{env:Env}(I:Nat->Shared->Prop)(turn:∀ n s,I n s->wpAny (model prog w) A (pyNext it) (λr bI=>match r with
   |none=>R (.ok .next) bI
   | some v=>wpAny (model prog w) A (letOwnedTupleGo target it v) (λ_ bI=>wpAny (model prog w) A (assign target env v) (λ_ eZ =>
     wpAny (model prog w) A (forIn ifs true λc r=>if r=true then do let ok <- isTrue c env (eval c env);pure (ForInStep.yield ok) else pure (ForInStep.yield r)) (λok dZ =>
      if ok=true then wpAny (model prog w) A (eval elt env) (λx iJ =>
       wpAny (model prog w) A (call (.builtin "list.append") [acc,x]) (λ_ kK=>∃ m,m < n/\I m kK) (λ_ _=>False) iJ) (notedBy (model prog w) A env λe s'=>R (.error e) s') dZ
      else ∃ m,m < n/\I m dZ) (λ_ _=>False) eZ) (λ_ _=>False) bI) (λ_ _=>False) bI) (λ_ _=>False) s)(n:Nat)(h:I n s) :
  codeAny (model prog w) A (.compLoop (.ListComp elt [⟨target,iter,ifs,0⟩] scope pos) 0 it acc env) R s:=by
 refine codeAny_loop rfl I (λn s hI=>?_) n h;show wpAny _ A ((compTurn (.ListComp elt [⟨target,iter,ifs,0⟩] scope pos) 0 it acc env).onRaise (λx=>do noteFrame x env;theTreesLotGoes x)) _ _ s;refine wpAny_noted ?_;rw[compTurn_list];refine aa (dz (aa (bg (turn n s hI) (λr bI de=>?_) λ_ _ h'=>h'.elim)));cases r with
 |none=>exact ah de
 |some v =>
  refine aa (bg de (λ_ bI de=>?_) λ_ _ h'=>h'.elim);refine aa (bg de (λ_ eZ hU=>aa (bg hU (λok dZ kX=>?_) λ_ _ h'=>h'.elim)) λ_ _ h'=>h'.elim);cases ok with
  |false=>exact wpAny_pure ⟨rfl,kX⟩
  |true =>
   exact aa (aa (bg kX (λx iJ nY=>aa (bg nY (λ_ kK nX=>ah (ah ⟨rfl,nX⟩)) λ_ _ h'=>h'.elim)) λ_ _ h'=>h'))
end
def jU(X:Cx)(es:List Expr)(t:TT):Prop :=
 ∀(pins:List (Addr×Obj)) (s:Shared) (Z:St) (H:Hp) (Q:Bool->Hp->Prop),Inv X pins Z H s->t Z H Q ->
  wpAny (model X.prog X.w) X.A (forIn es true λc r=>if r=true then do let ok <- isTrue c X.env (eval c X.env);pure (ForInStep.yield ok) else pure (ForInStep.yield r)) (TP X pins Z Q) X.xe s
def OM:TT:=λ_ H Q=>Q true H
theorem Ml:jU X [] OM:=λpins s Z H Q I h=>ah ⟨H,I,h⟩
theorem Mm{c:Expr}{t:TT}(h:PT X c t):jU X [c] t:=by
 intro pins s Z H Q I q;simp only[List.forIn_cons,List.forIn_nil,if_true];exact aa (aa (bg (h pins s Z H Q I q) (λb s' hb=>ah (ah hb)) λ_ _ x=>x))
def I9(scope:Scope)(cl:List (Str×Addr))(C:Addr):List (Str×Addr):=cellsFrom (C+1) scope.names []++cl
theorem E1:∀(names:List (Str×NameKind)) (n:Nat) (acc:List (Str×Addr)),cellsFrom n names acc=cellsFrom n names []++acc
 |[],_,_=>rfl
 |(y,k)::r,n,acc=>by
  unfold cellsFrom;split
  ·rw[E1 r (n+1) ((y,n)::acc),E1 r (n+1) [(y,n)],eF]
   rfl
  ·exact E1 r n acc
theorem R6{x:Str}{c:Addr}:∀{names:List (Str×NameKind)} {n:Nat},(x,c)∈cellsFrom n names []->(x,NameKind.cell)∈names
 |[],_,h=>by simp[cellsFrom] at h
 |(y,k)::r,n,h=>by
  unfold cellsFrom at h;split at h
  ·rename_i hk;rw[E1] at h;rcases eX.mp h with z|z
   ·exact bH _ (R6 z)
   ·cases fE.mp z;rw[show k=NameKind.cell from by simpa using hk];exact fF
  ·exact bH _ (R6 h)
theorem F1{α:Type}{x:Str}:∀{a b:List (Str×α)},(a++b).lookup x=(a.lookup x).or (b.lookup x)
 |[],_=>rfl
 |(y,v)::r,b=>by
  rw[List.cons_append,cv,cv];cases x==y
  ·exact F1
  ·rfl
theorem Dc(h:scope.names.lookup x=some .cell\/∃c,cl.lookup x=some c):∃c,(I9 scope cl C).lookup x=some c:=by
 unfold I9;rw[F1];cases e:(cellsFrom (C+1) scope.names []).lookup x with
 |some c=>exact⟨c,rfl⟩
 |none =>
  rcases h with h|h
  ·have q:=dc scope.names (C+1) [] (.inl h);rw[e] at q;cases q
  ·exact h
theorem L5{env:Env}:∀{names:List (Str×NameKind)} {x:Str},names.lookup x=some .cell ->
  (names.map λ(n,k)=>if(k==NameKind.free&&env.scope.kind==.function&&env.kindOf n==some .cell) then(n,NameKind.cell) else(n,k)).lookup x=some .cell
 |[],_,h=>by simp at h
 |(n,k)::r,x,h=>by
  have ih:=@L5 env r x;show List.lookup x ((if(k==NameKind.free&&env.scope.kind==.function&&env.kindOf n==some .cell)=true then(n,NameKind.cell) else(n,k))::_)=_;cases hx:x==n with
  |true =>
   simp only[List.lookup_cons,hx] at h;cases h;simp[List.lookup_cons,hx]
  |false =>
   simp only[List.lookup_cons,hx] at h;by_cases hc:(k==NameKind.free&&env.scope.kind==.function&&env.kindOf n==some .cell)=true
   ·rw[aJ hc];simp only[List.lookup_cons,hx];exact ih h
   ·rw[aB hc];simp only[List.lookup_cons,hx];exact ih h
theorem Z3{h:Heap}(ck:CellsOk h (C+1) (cellsFrom (C+1) scope.names [])){c:Addr}(e:(I9 scope cl C).lookup x=some c):C<c\/cl.lookup x=some c:=by
 unfold I9 at e;rw[F1] at e;cases e2:(cellsFrom (C+1) scope.names []).lookup x with
 |some c' =>
  rw[e2] at e;cases e;exact .inl (ck.empty x c (aH e2)).2
 |none =>
  rw[e2] at e;exact .inr e
theorem El{M:Model}{E:Value->Shared->Prop}{globals:Addr}{outer:Env}{Q:Env->Shared->Prop}(hQ:∀ de:Heap,de.Ns s.heap.objs.size (λ_=>none)->(∀ b o,s.heap.get? b=some o->de.get? b=some o)->CellsOk de (s.heap.objs.size + 1) (cellsFrom (s.heap.objs.size + 1) scope.names []) ->
   Q (newEnv scope s.heap.objs.size globals (I9 scope cl s.heap.objs.size) qual none .none (some outer) builtinsNs) { s with heap:=de }) :
  wpAny M A (newFunctionEnv scope globals cl [] qual none .none (some outer)) Q E s:=by
 simp only[newFunctionEnv,Option.isSome_some,if_true];refine aa (wpAny_alloc ?_);refine aa (wpAny_layCells _ (λname kind cells=>by cases Ho:kind==NameKind.cell<;>simp[Ho]) _ _ _ _ ?_);have ok:=cellsFrom_ok scope.names (s.heap.push { cls:=.type "dict",data:=.dict #[] }) (s.heap.objs.size+1) [] ⟨λ_ _ hm=>(nomatch hm),List.Pairwise.nil⟩ (by rw[dO];exact aj _);rw[dO] at ok;rw[show({ s with heap:=s.heap.push { cls:=.type "dict",data:=.dict #[] } }:Shared).heap.objs.size=s.heap.objs.size+1 from dO ..];rw[List.forIn_nil];refine aa (ah (ah ?_));rw[E1];exact hQ _ ((Heap.Ns.new s.heap (.type "dict")).keeps (pushCells_keeps _ _)) (λb o e=>pushCells_keeps _ _ b o (ai _ e)) ok
def d7(X:Cx)(pins:List (Addr×Obj))(scope:Scope)(N':List Str)(cl:List (Str×Addr))(C:Addr)(s:Shared)(H:Hp)(fp:List Addr):Cx where
 prog:=X.prog
 w:=X.w
 K:=X.K
 mg:=X.mg
 base:=X.base
 A:=X.A
 N:=N'
 cR:=s
 iy:=H
 env:=compEnvC scope (I9 scope cl C) C X.env
 outer:=X.stack
 stack:=X.stack
 ex:=fp
 calm:=true
 fn:=λx=>decide (scope.names.lookup x=some .cell)
 pn:=X.pn++pins
 xe:=λ_ _=>False
structure cZ(X:Cx)(scope:Scope)(N':List Str)(d0:List Nat)(cl:List (Str×Addr)):Prop where
 kind:scope.kind=.function
 cells:∀y∈scope.names,y.2=.cell->scope.names.lookup y.1=some .cell
 names:∀y∈scope.names,y.2=.local->scope.names.lookup y.1=some .local
 oG:closureFor scope X.env=pure cl
 cin:∀x c,cl.lookup x=some c->X.env.cells.lookup x=some c
 sg:∀x,scope.names.lookup x=some .free->∃c,cl.lookup x=some c
 nd:N'.Nodup
 IA:∀(i j:Nat),d0[i]?=some j->∃x,N'[i]?=some x/\X.N[j]?=some x/\scope.names.lookup x=some .free/\(X.env.kindOf x=some .cell\/X.env.kindOf x=some .free)
 xR:d0.length<=N'.length
theorem E3{env:Env}:∀{names:List (Str×NameKind)} {x:Str},names.lookup x=some .free ->
  (names.map λ(n,k)=>if(k==NameKind.free&&env.scope.kind==.function&&env.kindOf n==some .cell) then(n,NameKind.cell) else(n,k)).lookup x=some .cell \/
  (names.map λ(n,k)=>if(k==NameKind.free&&env.scope.kind==.function&&env.kindOf n==some .cell) then(n,NameKind.cell) else(n,k)).lookup x=some .free
 |[],_,h=>by simp at h
 |(n,k)::r,x,h=>by
  have ih:=@E3 env r x;show List.lookup x ((if(k==NameKind.free&&env.scope.kind==.function&&env.kindOf n==some .cell)=true then(n,NameKind.cell) else(n,k))::_)=_\/List.lookup x ((if(k==NameKind.free&&env.scope.kind==.function&&env.kindOf n==some .cell)=true then(n,NameKind.cell) else(n,k))::_)=_;cases hx:x==n with
  |true =>
   simp only[List.lookup_cons,hx] at h;cases h;by_cases hc:(NameKind.free==NameKind.free&&env.scope.kind==.function&&env.kindOf n==some .cell)=true
   ·rw[aJ hc];simp[List.lookup_cons,hx]
   ·rw[aB hc];simp[List.lookup_cons,hx]
  |false =>
   simp only[List.lookup_cons,hx] at h;by_cases hc:(k==NameKind.free&&env.scope.kind==.function&&env.kindOf n==some .cell)=true
   ·rw[aJ hc];simp only[List.lookup_cons,hx];exact ih h
   ·rw[aB hc];simp only[List.lookup_cons,hx];exact ih h
theorem L6{env:Env}:∀{names:List (Str×NameKind)} {x:Str},((names.map λ(n,k)=>if(k==NameKind.free&&env.scope.kind==.function&&env.kindOf n==some .cell) then(n,NameKind.cell) else(n,k)).lookup x=some .cell \/
  (names.map λ(n,k)=>if (k == NameKind.free && env.scope.kind == .function && env.kindOf n == some .cell) then (n,NameKind.cell) else (n,k)).lookup x=some .free)->names.lookup x=some .free \/ names.lookup x=some .cell
 |[],_,h=>by simp at h
 |(n,k)::r,x,h=>by
  have ih:=@L6 env r x;rw[aW] at h;cases hx:x==n with
  |true =>
   simp only[List.lookup_cons,hx];by_cases hc:(k==NameKind.free&&env.scope.kind==.function&&env.kindOf n==some .cell)=true
   ·left;simp only[Bool.and_eq_true,beq_iff_eq] at hc;rw[hc.1.1]
   ·simp only[if_neg hc,List.lookup_cons,hx] at h;rcases h with h|h
    ·exact .inr h
    ·exact .inl h
  |false =>
   simp only[List.lookup_cons,hx];by_cases hc:(k==NameKind.free&&env.scope.kind==.function&&env.kindOf n==some .cell)=true
   ·simp only[if_pos hc,List.lookup_cons,hx] at h;exact ih h
   ·simp only[if_neg hc,List.lookup_cons,hx] at h;exact ih h
def A1(Z:St)(d0:List Nat)(n:Nat):St:=d0.map (λj=>(Z[j]?).join)++List.replicate (n-d0.length) none
section
variable{pins:List (Addr×Obj)}{Z:St}{H:Hp}
theorem Inv.DE{h1:Heap}{tk:Nat}(I:Inv X pins Z H s)(S:cZ X scope N' d0 cl)(hc:X.calm=true)(hf:∀b∈fp,A4 X pins H b)(ho:∀b∈fp,∃o,s.heap.get? b=some o)(hC:s.heap.objs.size<=C)(hn:∃m,h1.Ns C m)(k:∀b o,s.heap.get? b=some o->h1.get? b=some o)(ck:CellsOk h1 (C+1) (cellsFrom (C+1) scope.names [])) :
  Inv (d7 X pins scope N' cl C s H fp) [] (A1 Z d0 N'.length) H { s with heap:=h1,toks:=tk }:=by
 obtain⟨m,hm⟩:=hn;have Hn:(relabel scope X.env).kind=.function:=S.kind;have AB:∀b o,s.heap.get? b=some o->b≠C:=λb o e z=>absurd (ao e) (by rw[z];exact ja.mpr hC);have two:∀{x:Str} {c:Addr},(I9 scope cl C).lookup x=some c->(C<c/\h1.IsCell c none/\(x,c)∈cellsFrom (C+1) scope.names [])\/(cl.lookup x=some c/\(cellsFrom (C+1) scope.names []).lookup x=none):=λ{x c} h=>by
  unfold I9 at h;rw[F1] at h;cases e:(cellsFrom (C+1) scope.names []).lookup x with
  |some c' =>
   rw[e] at h;cases h;have hm:=aH e;exact .inl ⟨(ck.empty x c hm).2,(ck.empty x c hm).1,hm⟩
  |none =>
   rw[e] at h;exact .inr ⟨h,rfl⟩
 have qv:∀{x:Str} {c:Addr},cl.lookup x=some c->c<s.heap.objs.size:=λ{x c} h=>by
  obtain⟨v,o,e,_⟩:=I.cell x c (S.cin x c h);exact ao e
 have frees:∀{x:Str},scope.names.lookup x=some .free->(I9 scope cl C).lookup x=cl.lookup x:=λ{x} h=>by
  unfold I9;rw[F1];cases e:(cellsFrom (C+1) scope.names []).lookup x with
  |some c' =>
   have:=S.cells _ (R6 (aH e)) rfl;rw[h] at this;cases this
  |none=>rfl
 refine⟨⟨I.mod,Hn,I.ok.glob,I.ok.blt,hC,?_,?_,?_,λ_=>I.ok.hd hc,I.ok.frames,.inl rfl,?_,I.bs,?_,?_,?_,I.stack,I.uW⟩,rfl,I.bare,Un.kept k,⟨m,hm,?_⟩,?_,?_,?_,?_,I.bz.kept k,?_⟩
 ·intro x y c h1 h2;rcases two h1 with⟨l1,_,q1⟩|⟨q1,_⟩<;>rcases two h2 with⟨l2,_,q2⟩|⟨q2,_⟩
  ·exact PySem.name_of_addr ck.apart q1 q2
  ·exact absurd (cx l1 (aq (qv q2) hC)) (aZ _)
  ·exact absurd (cx l2 (aq (qv q1) hC)) (aZ _)
  ·exact I.ok.inj x y c (S.cin x c q1) (S.cin y c q2)
 ·intro x hx;rcases L6 (env:=X.env) (names:=scope.names) hx with z|z
  ·obtain⟨c,hc⟩:=S.sg x z;exact⟨c,(frees z).trans hc⟩
  ·have q:=dc scope.names (C+1) [] (.inl z);obtain⟨c,hc⟩:=dN.mp q;refine⟨c,?_⟩;show(I9 scope cl C).lookup x=some c;unfold I9;rw[F1,hc]
   rfl
 ·intro x c hf h;have z:scope.names.lookup x=some .cell:=aS hf;have q:=dc scope.names (C+1) [] (.inl z);rcases two h with⟨l,_⟩|⟨_,e⟩
  ·exact cM (jb hC l)
  ·rw[e] at q;cases q
 ·intro b hb;obtain⟨f0,f1,f2,f3,f4,f5⟩:=hf b hb;obtain⟨o,e⟩:=ho b hb;refine⟨AB b o e,λx c h=>?_⟩;rcases two h with⟨l,_⟩|⟨q,_⟩
  ·intro z;subst z;exact absurd (cx l (aq (ao e) hC)) (aZ _)
  ·exact f4 x c (S.cin x c q)
 ·exact aL I.ok.lD I.sz
 ·intro b o e hb;obtain⟨f0,f1,f2,f3,f4,f5⟩:=hf b hb;rcases f3 with f3|f3
  ·exact I.ok.ji b o e f3
  ·exact absurd (ao (I.ok.bs b o e).1) (ja.mpr f3)
 ·intro b hb z;obtain⟨f0,f1,f2,f3,f4,f5⟩:=hf b hb;rcases ay.mp (I.J9 b z) with z|z
  ·exact f1 z
  ·exact f2 z
 ·intro i x v HW h2 h3;have hi:i<d0.length:=by
   unfold A1 at h2;by_cases hi:i<d0.length
   ·exact hi
   ·rw[cI (by simpa using hi),cY] at h2;split at h2<;>cases h2
  obtain⟨j,hj⟩:∃j,d0[i]?=some j:=⟨_,aC hi⟩
  have hs:Z[j]?=some (some v):=by
   unfold A1 at h2;rw[aE (by simpa using hi),aA,hj] at h2;simp only[Option.map_some] at h2;cases e:Z[j]? with
   |none=>rw[e] at h2;cases h2
   |some a=>rw[e] at h2;exact dM some (aG h2)
  obtain⟨y,GV,GU,vV,AN⟩:=S.IA i j hj;have ey:y=x:=by
   have rO:N'[i]?=some x:=HW;rw[GV] at rO;exact aG rO
  subst ey;obtain⟨m0,XH,hl⟩:=I.loc;obtain ⟨u,ru,hu⟩:=hl j y v GU hs (by
   rcases AN with z|z
   ·exact .inr (.inl z)
   ·exact .inr (.inr z))
  refine⟨u,ru,.inr ⟨E3 (env:=X.env) (names:=scope.names) vV,?_⟩⟩;rcases hu with⟨z,_⟩|⟨_,c,Hy,lK⟩
  ·rcases AN with z'|z'<;>(rw[z'] at z;cases z)
  ·obtain⟨c',rm⟩:=S.sg y vV;have e:=S.cin y c' rm;rw[Hy] at e;cases e;obtain⟨o,e1,e2⟩:=lK;exact⟨c,(frees vV).trans rm,o,k _ _ e1,e2⟩
 ·intro x c h;rcases two h with⟨_,q,_⟩|⟨q,_⟩
  ·exact⟨none,q⟩
  ·obtain⟨v,o,e1,e2⟩:=I.cell x c (S.cin x c q);exact⟨v,o,k _ _ e1,e2⟩
 ·exact I.bz.fresh hC
 ·intro x c h;rcases two h with⟨l,_⟩|⟨q,_⟩
  ·exact I.bz.fresh (cM (jb hC l))
  ·exact I.dH x c (S.cin x c q)
 ·intro p hp;have fL:p∈X.pn++pins:=by simpa[d7] using hp
  obtain⟨p1,p2,p3,p4,p5⟩:=I.pin p fL;refine⟨k _ _ p1,p2,AB _ _ p1,λz=>?_,p5⟩;rcases ay.mp (I.J9 _ z) with z|z
  ·exact p3 z
  ·exact p4 z
 ·unfold A1;show _=N'.length;rw[bt,av,gU];have:=S.xR;omega
theorem Inv.FF{gY:List (Addr×Obj)}{bD:St}{H':Hp}{s':Shared}(I:Inv X pins Z H s)(hf:∀b∈fp,A4 X pins H b)(J:Inv (d7 X pins scope N' cl C s H fp) gY bD H' s'):Inv X pins Z H' s' :=
 I.zj (ch:=fp) J.os J.base J.bz J.bare λb hb=>by
  obtain⟨f0,f1,f2,f3,f4,f5⟩:=hf b hb;exact⟨f3,f1,f4,f5⟩
theorem Inv.QP{D:Addr}{ys:List V}{aN:List Value}{n:Nat}(I:Inv X pins Z H s)(f:A4 X pins H D)(hs:X.cR.heap.objs.size<=D)(hv:Vals ys aN)(hz:ys.length<=sizeLine)(ho:s.heap.get? D=some { cls:=.type "list",data:=.seq aN.toArray n }):Inv X pins Z (upd H D (.lst ys)) s:=by
 obtain⟨f0,f1,f2,f3,f4,f5⟩:=f;have eA:∀b o,X.cR.heap.get? b=some o->b≠D:=λb o e z=>absurd (ao e) (by rw[z];exact ja.mpr hs);have tup:∀b u,H b=some u->upd H D (.lst ys) b=some u:=λb u e=>by rw[f7 (j6 e f0)];exact e
 refine⟨I.ok,I.os,I.bare,⟨?_,?_,?_,I.base.there,?_,?_,?_⟩,I.loc,I.cell,?_,?_,?_,?_,I.len⟩
 ·exact λb o e n1 n2 n3=>I.base.keep b o e n1 n2 n3
 ·exact λb o e n1 n2 n3=>I.base.slot b o e n1 n2 n3
 ·exact λb o e n1 n2=>by rw[f7 (eA b o e)];exact I.base.free b o e n1 n2
 ·exact λb xs e=>tup _ _ (I.base.gI b xs e)
 ·exact λb o u e=>tup _ _ (I.base.gy b o u e)
 ·exact λb ps e=>by
   obtain⟨more,q⟩:=I.base.gJ b ps e;exact⟨more,tup _ _ q⟩
 ·rw[f7 f1.symm];exact I.free
 ·exact λx c e=>by rw[f7 (f4 x c e)];exact I.dH x c e
 ·intro p hp;obtain⟨p1,p2,p3⟩:=I.pin p hp;exact⟨p1,by rw[f7 (f5 p hp)];exact p2,p3⟩
 ·intro a o e;by_cases ha:a=D
  ·subst ha;rw[m6] at e;cases e;exact⟨hz,aN,n,hv,ho⟩
  ·rw[f7 ha] at e;have q:=I.bz a o e;refine q.T6 (λb u _ h=>h) (λb hb=>tup _ _ hb) (λb xs hb=>tup _ _ hb)
end
def zt(wi:TI)(d0:List Nat)(n:Nat)(g:TG)(tc:TT)(te:TE):TE:=λZ H Q=>wi Z H λJ H1=>∃W:Nat->Nat->List V->St->Hp->Prop,(∃m,W 0 m [] (A1 Z d0 n) H1)/\∀i m ys Z H,W i m ys Z H ->
 (J.stop i H/\∀p,H p=none->Q (.ref p) (upd H p (.lst ys))) \/
 (J.go i H/\ys.length < sizeLine/\∀ x H',J.nJ i H x H'->g x Z H' λcw H2=>tc cw H2 λb H3 =>
  if b=true then te cw H3 λy H4=>∃ m',m' < m/\W (i + 1) m' (ys ++ [y]) cw H4 else ∃ m',m' < m/\W (i + 1) m' ys cw H3)
noncomputable abbrev L9(aN:List Value)(n:Nat):Obj:={ cls:=.type "list",data:=.seq aN.toArray n }
section
variable{pins:List (Addr×Obj)}{Z:St}{H:Hp}
theorem DD{it:Addr}{tn:Nat->Heap->Prop}{J:It}{xx:Addr->Shared->Hp->Value->Shared->Prop}{RR:Value->Addr->Result->Shared->Prop}{E:Value->Shared->Prop}{W:Nat->Nat->List V->St->Hp->Prop}{m0:Nat}{Q:VK}(S:cZ X scope N' d0 cl)(hc:X.calm=true)(hg:∀C s H,PG (d7 X pins scope N' cl C s H fp) tg g)(ht:∀C s H,jU (d7 X pins scope N' cl C s H fp) ifs tc)(he:∀C s H,PE ((d7 X pins scope N' cl C s H fp).V7 (xx C s H)) elt te)(I:Inv X pins Z H s)(T:Turn X.prog X.w X.K tg J fp it tn)(st:tn 0 s.heap)(hf:∀b∈fp,A4 X pins H b)(w0:W 0 m0 [] (A1 Z d0 N'.length) H)(turn:∀ i m ys Z H,W i m ys Z H->(J.stop i H/\∀ p,H p=none->Q (.ref p) (upd H p (.lst ys))) \/
   (J.go i H/\ys.length < sizeLine/\∀ x H',J.nJ i H x H'->g x Z H' λcw H2=>tc cw H2 λb H3 =>
    if b=true then te cw H3 λy H4=>∃ m',m' < m/\W (i + 1) m' (ys ++ [y]) cw H4 else ∃ m',m' < m/\W (i + 1) m' ys cw H3))(wL:∀D C s' H' m,Inv X pins Z H' s'->Q (.ref D) H'->s'.heap.Ns C m->H' C=none->s.heap.objs.size<=C->RR (.ref D) C (.ok .next) s')(HJ:∀D C e s',s.heap.objs.size<=C->xx C s H e s'->notedBy (model X.prog X.w) X.A (compEnvC scope (I9 scope cl C) C X.env) (λe s'=>RR (.ref D) C (.error e) s') e s') :
  wpAny (model X.prog X.w) X.A (newList []) (λacc dZ=>wpAny (model X.prog X.w) X.A (newFunctionEnv scope X.env.globals cl [] X.env.qual none .none (some X.env)) (λkl iJ =>
   kl.frame=X.env.frame/\codeAny (model X.prog X.w) X.A (.compStart (.ListComp elt [⟨tg,iter,ifs,0⟩] scope pos) 0 (.ref it) acc { kl with scope:=relabel scope X.env }) (RR acc kl.locals) iJ) E dZ) E s:=by
 refine bG (El λde fQ eT ly=>?_);dsimp only at fQ eT ly ⊢;generalize mH:s.heap.push { cls:=.type "list",dict:=none,data:=.seq ([]:List Value).toArray }=H2 at fQ eT ly ⊢;generalize eD:s.heap.objs.size=D at *;have hC:H2.objs.size=D+1:=by rw[<- mH,dO,eD]
 generalize eC:H2.objs.size=C at *;have rC:D≠C:=by omega
 have lt:∀b o,s.heap.get? b=some o->b<D:=λb o e=>by rw[<- eD];exact ao e
 have nU:D<=C:=by omega
 have mW:∀b o,s.heap.get? b=some o->b≠C:=λb o e=>aI (aq (lt b o e) nU);have kQ:∀b o,s.heap.get? b=some o->b≠D:=λb o e=>aI (lt b o e);have old:∀b o,s.heap.get? b=some o->de.get? b=some o:=λb o e=>eT b o (mH▸ai _ e);have ir:de.get? D=some (L9 [] 0):=eT _ _ (by rw[<- mH,<- eD];exact au _ rfl);have hV:∀b∈fp,∃o,s.heap.get? b=some o:=λb hb=>by
  obtain⟨o,e,_⟩:=T.obj _ _ st b hb;exact⟨o,e⟩
 have rB:D∉fp:=λhm=>by
  obtain⟨o,e⟩:=hV D hm;exact kQ D o e rfl
 have X1:Inv (d7 X pins scope N' cl C s H fp) [] (A1 Z d0 N'.length) H { s with heap:=de } :=
  I.DE S hc hf hV (by rw[eD];omega) ⟨_,fQ⟩ old ly
 have qo:tn 0 de:=T.keep _ _ _ st λb _ o e=>old b o e;have xC:∀{H':Hp},(∀b∈fp,H' b=none)->∀b∈fp,A4 (d7 X pins scope N' cl C s H fp) [] H' b:=λhn b hb=>by
  obtain⟨f0,f1,f2,f3,f4,f5⟩:=hf b hb;obtain⟨o,e⟩:=hV b hb;refine⟨hn b hb,?_,?_,.inl hb,λx c q=>(Z3 ly q).elim (λl z=>absurd (cx (z▸l) (aq (lt b o e) nU)) (aZ _)) λq=>f4 x c (S.cin x c q),λp hp=>?_⟩
  ·exact mW b o e
  ·exact λz=>by
    rcases ay.mp (I.J9 b z) with z|z
    ·exact f1 z
    ·exact f2 z
  ·have fL:p∈X.pn++pins:=by simpa[d7] using hp
   exact f5 p fL
 have fD:∀{H':Hp},H' D=none->A4 (d7 X pins scope N' cl C s H fp) [] H' D:=λhn=>by
  refine⟨hn,rC,λz=>?_,.inr (by show s.heap.objs.size<=D;omega),λx c q=>?_,λp hp=>?_⟩
  ·exact absurd (I.sX (a:=D) (by omega)) λkf=>by
    rcases ay.mp (I.J9 D z) with z|z
    ·exact absurd I.lt (by rw[<- z,eD];exact aZ _)
    ·exact kf z
  ·rcases Z3 ly q with l|q
   ·exact λz=>absurd (aq (z▸l) nU) (aZ _)
   ·obtain⟨v,o,e,_⟩:=I.cell x c (S.cin x c q);exact kQ c o e
  ·have fL:p∈X.pn++pins:=by simpa[d7] using hp
   exact kQ _ _ (I.pin p fL).1
 have nR:∀{H':Hp} {s':Shared} {bD:St} {aN:List Value} {n:Nat},Inv (d7 X pins scope N' cl C s H fp) [] bD H' s'->H' D=none->s'.heap.get? D=some (L9 aN n) ->
   Inv (d7 X pins scope N' cl C s H fp) [(D,L9 aN n)] bD H' s':=λ{H' s' bD aN n} J0 hn e=>J0.J5 λp hp=>by
  have z:p=(D,L9 aN n):=by simpa using hp
  subst z;obtain⟨f0,f1,f2,_⟩:=fD hn;exact⟨e,f0,f1,f2,λv z=>nomatch z⟩
 have ou:∀{H':Hp} {aN:List Value} {n:Nat},(∀b∈fp,H' b=none)->∀b∈fp,A4 (d7 X pins scope N' cl C s H fp) [(D,L9 aN n)] H' b:=λ{H' aN n} hn b hb=>by
  obtain⟨f0,f1,f2,f3,f4,f5⟩:=xC hn b hb;refine⟨f0,f1,f2,f3,f4,λp hp=>?_⟩;have fL:p∈(d7 X pins scope N' cl C s H fp).pn\/p=(D,L9 aN n):=by simpa using hp
  rcases fL with z|z
  ·exact f5 p (dw _ z)
  ·subst z;exact λz=>rB (by rw[show D=b from z];exact hb)
 have loop:∀dZ:Shared,dZ={ s with heap:=de } ->
   codeAny (model X.prog X.w) X.A (.compLoop (.ListComp elt [⟨tg,iter,ifs,0⟩] scope pos) 0 (.ref it) (.ref D) (compEnvC scope (I9 scope cl C) C X.env)) (RR (.ref D) C) dZ:=by
  rintro dZ rfl;refine Ve (λn s'=>∃ i ys bD H' aN nn,Inv (d7 X pins scope N' cl C s H fp) [] bD H' s'/\tn i s'.heap/\(∀ b ∈ fp,H' b=none)/\H' D=none/\Vals ys aN/\ys.length <= sizeLine /\
   s'.heap.get? D=some (L9 aN nn)/\W i n ys bD H') ?_ m0 ⟨0,[],_,H,[],0,X1,qo,λb hb=>(hf b hb).1,I.bz.fresh (by omega),.nil,bY _,ir,w0⟩
  rintro n s3 ⟨i,ys,gH,H3,aN,nn,I3,mT,nt,d3,v3,z3,o3,w3⟩;have tw:=nR I3 d3 o3;rcases turn i n ys gH H3 w3 with⟨stop,q⟩|⟨go,hz,step⟩
  ·refine cb (T.done (d7 X pins scope N' cl C s H fp) rfl rfl rfl rfl i _ s3 _ H3 _ tw (ou nt) mT stop) λr s4 ⟨hr,I4⟩=>?_;subst hr;have o4:=(I4.pin (D,L9 aN nn) (by simp)).1;have J4:Inv X pins Z H3 s4:=I.FF hf I4;have xD:A4 X pins H3 D:=by
    refine⟨d3,bU (by rw[<- eD];exact I.lt),I.sX (by omega),.inr (by have:=I.sz;omega),λx c q=>?_,λp hp=>?_⟩
    ·obtain⟨v,o,e,_⟩:=I.cell x c q;exact kQ c o e
    ·exact kQ _ _ (I.pin p hp).1
   obtain⟨mC,wq,_⟩:=I4.loc;exact wL D C s4 (upd H3 D (.lst ys)) mC (J4.QP xD (by have:=I.sz;omega) v3 z3 o4) (q D d3) wq (by rw[f7 rC.symm];exact I4.free) (by omega)
  ·refine cb (T.item (d7 X pins scope N' cl C s H fp) rfl rfl rfl rfl i _ s3 _ H3 _ tw (ou nt) mT go) λr s4 ⟨u,hr,h4⟩=>?_;subst hr;refine cb h4 λ_ s5 aV=>?_;obtain⟨x,H5,I5,r5,y5,kM,rS⟩:=aV;have o5:=I5.pin (D,L9 aN nn) (by simp);have tu:=I5.pinned (ou rS) (T.obj _ _ kM);refine cb (hg C s H _ s5 _ H5 x u _ tu r5 (step x H5 y5)) λ_ s6 aV=>?_;obtain⟨jX,H6,I6,q6⟩:=aV;refine cb (ht C s H _ s6 jX H6 _ I6 q6) λok s7 ⟨H7,I7,q7⟩=>?_;have back:∀{qj:St} {H8:Hp} {s8:Shared},Inv (d7 X pins scope N' cl C s H fp) ([(D,L9 aN nn)]++U7 fp s5.heap) qj H8 s8->(∀b∈fp,H8 b=none)/\tn (i+1) s8.heap/\H8 D=none/\s8.heap.get? D=some (L9 aN nn) :=
    λ{qj H8 s8} I8=>by
     have pf:∀b∈fp,∀o,s5.heap.get? b=some o->s8.heap.get? b=some o/\H8 b=none:=λb hb o e=>by
      have:=I8.pin (b,o) (bf _ (bf _ (O3 hb e)));exact⟨this.1,this.2.1⟩
     have pd:=I8.pin (D,L9 aN nn) (by simp);refine⟨λb hb=>?_,T.keep _ _ _ kM λb hb o e=>(pf b hb o e).1,pd.2.1,pd.1⟩;obtain⟨o,e,_⟩:=T.obj _ _ kM b hb;exact(pf b hb o e).2
   cases ok with
   |false =>
    obtain⟨m',hm,w7⟩:=q7;obtain⟨b1,b2,b3,b4⟩:=back I7;exact⟨m',hm,i+1,ys,jX,H7,aN,nn,I7.J5 λp hp=>absurd hp (by simp),b2,b1,b3,v3,z3,b4,w7⟩
   |true =>
    refine bg (he C s H _ s7 jX H7 _ (I7.V7 _) q7) (λxv s8 aV=>?_) λe s' hx=>HJ D C e s' (by omega) hx;obtain⟨y,H8,I8,r8,m',hm,w8⟩:=aV;have I8:=I8.yc;obtain⟨b1,b2,b3,b4⟩:=back I8;refine cL F.slot_list_append ⟨_,b4,rfl⟩ F.entry_list_append (F.args_list_append_2 _ _) (Xg D aN.toArray nn xv (by rw[ax];have:=v3.length;omega)) ⟨b4,?_⟩;have q:∃n',(s8.heap.update D (Obj.mapSeq (·.push xv))).get? D=some (L9 (aN++[xv]) n'):=by
     have q0:=Yh b4 (·.push xv);have e0:aN.toArray.push xv=(aN++[xv]).toArray:=by simp
     rw[e0] at q0;exact⟨_,q0⟩
    obtain⟨n',q⟩:=q;have Ab:Inv (d7 X pins scope N' cl C s H fp) [] jX H8 s8:=I8.J5 λp hp=>absurd hp (by simp);obtain⟨f0,f1,f2,f3,f4,f5⟩:=fD (H':=H8) b3;have kp:∀b o,b≠D->s8.heap.get? b=some o->(s8.heap.update D (Obj.mapSeq (·.push xv))).get? b=some o:=λb' u hb hu=>(bT s8.heap (Obj.mapSeq (·.push xv)) (ba hb)).trans hu;refine⟨m',hm,i+1,ys++[y],jX,H8,aN++[xv],n',Ab.turned (it:=D) (t':=s8.toks) kp f0 f1 f3 f4 f5,T.keep _ _ _ b2 λb hb o e=>kp b o (λz=>rB (by rw[<- z];exact hb)) e,b1,b3,v3.append (.cons r8 .nil),?_,q,w8⟩;rw[bt,gT];omega
 exact⟨rfl,codeAny_compStart_list (loop _ rfl) (T.self _ 0 _ _ _ qo (loop _ rfl))⟩
theorem Inv.Ce{h':Heap}{s2:Shared}{H2:Hp}(I:Inv X pins Z H s)(hC:s2.heap.objs.size<=C)(I2:Inv X pins Z H2 s2)(hn:H C=none)(sb:Heap.SameBut C s.heap h'):Inv X pins Z H { s with heap:=h' }:=by
 have f:=I2.nz (b:=C) (H':=H) hC hn;obtain⟨f0,f1,f2,f3,f4,f5⟩:=f;exact I.turned (t':=s.toks) (λb o hb e=>sb.extBut b o hb e) f0 f1 f3 f4 f5
theorem DG{M:Model}{E:Value->Shared->Prop}{a:Sem Value}{b:Sem Env}{P:Env->Prop}{Q:Value->Env->Shared->Prop}(h:wpAny M A a (λx s1=>wpAny M A b (λy s2=>P y/\Q x y s2) E s1) E s):wpAny M A a (λx s1=>wpAny M A b (λy s2=>Q x y s2) E s1) E s :=
 bg h (λ_ _ h=>bg h (λ_ _ h=>h.2) λ_ _ z=>z) λ_ _ z=>z
theorem Fl{wi:TI}(S:cZ X scope N' d0 cl)(hc:X.calm=true)(hi:PI X tg iter wi)(hg:∀pins C s H fp,PG (d7 X pins scope N' cl C s H fp) tg g)(ht:∀pins C s H fp,jU (d7 X pins scope N' cl C s H fp) ifs tc)(he:∀pins C s H fp,PE (d7 X pins scope N' cl C s H fp) elt te)(hs:∀x,foldedSetIterable iter X.env x=pure x):PE X (.ListComp elt [⟨tg,iter,ifs,0⟩] scope pos) (zt wi d0 N'.length g tc te):=by
 intro pins s Z H Q I h;rw[eval_ListComp];refine gR (use:=none) rfl hs S.oG S.kind S.names (cb (hi pins s Z H _ I h) λxv bI de=>cb de λqK eZ hU=>?_);obtain⟨it,fp,tn,J,H2,e,I2,T,jf,f2,W,⟨m0,w0⟩,turn⟩:=hU;subst e;refine DG (DD (xx:=λ_ _ _ _ _=>False) (RR:=λacc C=>compPost (model X.prog X.w) X.A X.xe none (EP X pins Z Q) acc C) S hc (λC s H=>hg pins C s H fp) (λC s H=>ht pins C s H fp) (λC s H=>he pins C s H fp) I2 T jf f2 w0 turn ?_ λ_ _ _ _ _ z=>z.elim);intro D C s' H' m I' q hn hC hsz;exact⟨m,hn,λh' sb=>⟨.ref D,H',I'.Ce hsz I2 hC sb,rfl,q⟩⟩
theorem UU{qp px:Pos}{wi:TI}{i:Nat}(S:cZ X scope N' d0 cl)(hc:X.calm=true)(hi:PI X tg iter wi)(hg:∀pins C s H fp,PG (d7 X pins scope N' cl C s H fp) tg g)(ht:∀pins C s H fp,jU (d7 X pins scope N' cl C s H fp) ifs tc)(he:∀pins C s H fp,PE (d7 X pins scope N' cl C s H fp) elt te)(hs:∀x,foldedSetIterable iter X.env x=pure x)(hN:X.N.Nodup)(qY:X.N[i]?=some x)(hx:Loc X.env.scope x)(hf:X.fn x=true\/X.env.scope.names.lookup x=some .local) :
  PS X (.Assign [.Name x px] (.ListComp elt [⟨tg,iter,ifs,0⟩] scope pos) qp) (sk (zt wi d0 N'.length g tc te) (pT i)):=by
 intro pins s Z H D I h;have tS:∃b,swapsWith (.ListComp elt [⟨tg,iter,ifs,0⟩] scope pos) (some (.Name x px)) qp.line X.env=pure b:=⟨_,rfl⟩
 obtain⟨b,tS⟩:=tS;cases b with
 |false=>exact EB hN qY hx (Fl S hc hi hg ht he hs) tS hf pins s Z H D I h
 |true =>
  rw[exec_Assign_Name_used _ _ _ _ tS];refine aa (dz (aa ?_));show wpAny _ X.A (do let _ <- comprehension (.ListComp elt [⟨tg,iter,ifs,0⟩] scope pos) scope X.env _ (newList []) false (eval iter X.env) (some (assign (.Name x px) X.env))) _ _ s;refine aa (bg (gR (use:=some (assign (.Name x px) X.env)) (Q:=λ_ s'=>SP X pins D .next s') rfl hs S.oG S.kind S.names
   (cb (hi pins s Z H _ I h) λxv bI de=>cb de λqK eZ hU=>?_)) (λ_ s' hq=>ah (ah hq)) λ_ _ e=>e)
  obtain⟨it,fp,tn,J,H2,e,I2,T,jf,f2,W,⟨m0,w0⟩,turn⟩:=hU;subst e;refine DG (DD (xx:=λ_ _ _ _ _=>False) (Q:=λv H1=>pT i v Z H1 D.nx) (RR:=λacc C=>compPost (model X.prog X.w) X.A X.xe (some (assign (.Name x px) X.env)) (λ_ s'=>SP X pins D .next s') acc C) S hc (λC s H=>hg pins C s H fp) (λC s H=>ht pins C s H fp) (λC s H=>he pins C s H fp) I2 T jf f2 w0 turn ?_ λ_ _ _ _ _ z=>z.elim);intro Dl C s' H' m I' q hn hC hsz;show wpAny _ X.A (assign (.Name x px) X.env (.ref Dl)) _ _ _;refine wpAny_assign_Name (Dw I' hN qY hx (v:=.ref Dl) rfl (λs3 I3 ⟨a,sb,ha⟩=>?_) hf);have HM:C≠a:=by
   obtain⟨f0,f1,f2,f3,f4,f5⟩:=I2.nz (b:=C) (H':=H') hsz hC;rcases ha with z|z
   ·rw[z];exact f1
   ·exact λz'=>f4 _ _ z z'.symm
  obtain⟨f0,f1,f2,f3,f4,f5⟩:=I2.nz (b:=C) (H':=H') hsz hC;refine⟨m,hn.sameBut sb HM,λh3 Gu=>⟨_,H',I3.turned (t':=s3.toks) (λb o hb e=>Gu.extBut b o hb e) f0 f1 f3 f4 f5,q⟩⟩
end
end L2
namespace HT
open PySem PyProof.Rows
section
variable{prog:Program}{w:World}{A:Around}{E:Value->Shared->Prop}{s:Shared}
theorem Vu{t b:Addr}{ws:List Value}{Q:Value->Shared->Prop}(ht:IsTup s.heap t #[])(hb:IsTup s.heap b ws.toArray)(h1:Q (.ref b) s):wpAny (model prog w) A (binaryOp .Add (.ref t) (.ref b)) Q E s:=by
 obtain⟨⟨cls,dd,data,sl⟩,ho,hc,n,hd⟩:=id ht;obtain⟨⟨sf,nv,data2,jK⟩,jE,lK,n2,hd2⟩:=id hb;simp only at hc hd lK hd2;subst hc hd lK hd2;exact Yf ⟨_,ho,rfl⟩ ⟨_,jE,rfl⟩ ig ko gE gq (fW _ _)
   (tuple_addW0 t b #[] ws.toArray n n2 dd nv sl jK rfl) ⟨ho,jE,h1⟩
theorem RX{t sl:Addr}{items:Array Value}{vl vu:Value}{lo hi:Option Int}{Q:Value->Shared->Prop}(ht:IsTup s.heap t items)(hs:s.heap.IsSliceOf sl vl vu .none)(pl:IsPart vl lo)(pu:IsPart vu hi)(hw:df items.size 0 lo=0/\df items.size items.size hi=items.size)(h:Q (.ref t) s):wpAny (model prog w) A (getItem (.ref t) (.ref sl)) Q E s:=by
 obtain⟨os,oi,lI,rg⟩:=id hs;have wH:s.TypeIs (.ref sl) "slice":=⟨os,oi,lI⟩
 unfold getItem
 try with_reducible refine bA ?_
 first|refine aa (ah ?_)|skip
 refine aa (wpAny_sequenceKey ht.typeIs (by decide) ?_);refine aa (eL (name:=Str.ofString "__getitem__") ht.typeIs bE
  (bS bE ht.typeIs entry_tuple_getitem ?_ (args_tuple_getitem _ _)))
 show wpAny _ _ (Builtin.Tuple.tupleItemsOf (.ref t) >>= _) _ _ s;refine aa (tupleItemsOf_ ht ?_);refine aa (cV wH ?_);rw[aJ (by decide)];refine aa (P7 hs pl pu ?_);have vU:((((df items.size 0 lo:Nat):Int)==0&&(1:Int)==1&&(df items.size items.size hi-df items.size 0 lo)==items.size)=true):=by
  rw[hw.1,hw.2];simp
 show wpAny _ _ (if(((df items.size 0 lo:Nat):Int)==0&&(1:Int)==1&&(df items.size items.size hi-df items.size 0 lo)==items.size)=true then _ else _) _ _ s;rw[aJ vU];obtain⟨o,ho,hc,_⟩:=id ht;unfold Builtin.Tuple.tupleIsExact;refine aa (aa (cV ht.typeIs (ah ?_)));rw[aJ (by decide)]
 first
  |exact wpAny_bind (wpAny_rule (wpAny_bind (wpAny_pure ⟨_,rfl,wpAny_pure h⟩)))
  |exact wpAny_bind (wpAny_rule (wpAny_pure ⟨_,rfl,wpAny_pure h⟩))
  |exact wpAny_bind (wpAny_rule (wpAny_bind (wpAny_pure (wpAny_pure ⟨_,rfl,wpAny_pure h⟩))))
end
end HT
namespace L2
open PySem PySem.Spec PyProof.Rows
section
variable{X:Cx}
def JN(K:PySem.W.Frag):R2:=λx y H Q=>∃a b xs ys,x=.ref a/\y=.ref b/\gD K H a xs/\gD K H b ys/\xs.length+ys.length<=sizeLine /\
 (xs=[]->Q (.ref b) H)/\(ys=[]->Q (.ref a) H)/\(∀p,H p=none->Q (.ref p) (upd H p (.tup (xs++ys))))
theorem Wc:eP X (binaryOp .Add) (JN X.K):=by
 intro pins s Z H x y v u Q I rx ry h;obtain⟨a,b,xs,ys,rfl,rfl,ha,hb,hz,q0,q1,q2⟩:=h;by_cases hx:xs=[]
 ·subst hx;cases rx;cases ry;obtain⟨aN,r1,p1,_⟩:=I.tuple ha;obtain⟨kW,r2,p2,_⟩:=I.tuple hb;cases r1;exact HT.Vu p1 p2 ⟨.ref b,H,I,rfl,q0 rfl⟩
 ·exact LL pins s Z H _ _ v u Q I rx ry ⟨a,b,xs,ys,rfl,rfl,ha,hb,hx,hz,q1,λ_=>q2⟩
def Qw(K:PySem.W.Frag):V->Option Int->Option Int->Hp->VK->Prop:=λx lo hi H Q=>∃a xs,x=.ref a/\gD K H a xs /\
 (Q9 xs lo hi=xs->Q (.ref a) H)/\∀p,H p=none->Q (.ref p) (upd H p (.tup (Q9 xs lo hi)))
theorem MJ:sZ X (Qw X.K):=by
 intro pins s Z H x v vl vu lo hi sl Q I rx hs pl pu h;obtain⟨a,xs,rfl,hx,q0,q⟩:=h;by_cases hw:HT.df xs.length 0 lo=0/\HT.df xs.length xs.length hi=xs.length
 ·cases rx;obtain⟨aN,r,ht,hz⟩:=I.tuple hx;have hlen:aN.toArray.size=xs.length:=by rw[ax];exact r.length.symm
  refine⟨"tuple",_,bE.lookup,ht.typeIs,?_⟩;exact HT.RX ht hs pl pu (by rw[hlen];exact hw) ⟨.ref a,H,I,rfl,q0 (by unfold Q9;rw[hw.1,hw.2];simp)⟩
 ·exact Kg pins s Z H _ v vl vu lo hi sl Q I rx hs pl pu ⟨a,xs,rfl,hx,hw,q⟩
theorem Uz:m5 X (.builtin "isinstance") (λxs H Q=>∃x t c b,xs=[x,.ty c]/\gf X.K H x t/\PySem.W.kitOne X.K t (.type c)=some b/\Q (.bl b) H):=by
 intro pins s Z H xs us Q I r h;obtain⟨x,t,c,b,rfl,hT,hk,q⟩:=h;obtain⟨u,w',rfl,ru,eO⟩:=vals2 r;cases (show w'=Value.type c from eO);exact Ss I ru hT hk λtk=>⟨.bl b,H,I.tok tk,rfl,q⟩
theorem Sa(hc:X.calm=true):m5 X (.builtin "all") (λxs H Q=>∃(a:Addr) (bs:List Bool),xs=[.ref a]/\eW X.K H a (bs.map V.bl)/\Q (.bl (bs.all id)) H):=by
 intro pins s Z H xs us Q I r h;obtain⟨a,bs,rfl,ha,q⟩:=h;obtain⟨u,rfl,ru⟩:=vals1 r;cases ru;obtain⟨aN,rv,p,hz⟩:=I.list ha;refine call_all_walk ?_;refine gL p.isList ?_;have eA:a≠s.heap.objs.size:=by
  obtain⟨o,e,_⟩:=id p.isList;exact aI (ao e)
 have hl:=rv.length;rw[av] at hl;refine⟨s.heap.objs.size,_,_,_,_,_,λi=>bs.getD i true,rfl,Walks.list (A:=X.A.in1) (I.ok.hd hc) _ a eA aN.toArray,⟨⟨_,au _ rfl,rfl,rfl⟩,?_⟩,?_,λh' tk k=>?_⟩
 ·obtain⟨o,e,q1⟩:=id p.isList;exact⟨o,ai _ e,q1⟩
 ·intro i v s' Q' E' hP hQ;have hv:aN[i]?=some v:=by simpa using hP
  have hi:i<bs.length:=by rw[hl];exact(az.mp hv).1
  obtain⟨u',qL,vJ⟩:=rv.get (i:=i) (x:=V.bl bs[i]) (by rw[aA,aC hi];rfl);rw[hv] at qL;cases qL;cases (show v=Value.bool bs[i] from vJ);refine cj ?_;have:bs.getD i true=bs[i]:=by simp[List.getD,hi]
  dsimp only at hQ;rw[this] at hQ;exact hQ
 ·have e1:(List.range aN.toArray.size).all (λi=>bs.getD i true)=bs.all id:=by
   rw[ax,<- hl];rw[bL];simp only[List.all_eq_true,List.mem_range,id];constructor
   ·intro hh x hx;obtain⟨i,hi,rfl⟩:=du.mp hx;have:=hh i hi;simpa[List.getD,hi] using this
   ·intro hh i hi;have:=hh bs[i] (dD hi);simpa[List.getD,hi] using this
  rw[e1];exact ⟨.bl (bs.all id),H,I.kept (t':=tk) λb o e=>k b o (by
   intro hb;have:b=s.heap.objs.size:=by simpa using hb
   exact absurd (ao e) (by rw [this];exact aZ _)) (ai _ e),rfl,q⟩
end
end L2
namespace HT
open PySem PyProof.Rows
end HT
namespace L2
open PySem PySem.Spec PyProof.Rows
variable{X:Cx}{pos p:Pos}{w:World}{H H':Hp}{Z:St}{s s':Shared}{B:Heap}{ea C:Addr}{a0:Value}{ta:TA}
theorem k6.get{P:Program}{h:Heap}{a:Addr}:∀{o:HO},k6 P w H h a o->∃ob,h.get? a=some ob
 |.lst _,x=>by obtain⟨_,_,_,_,e⟩:=x;exact⟨_,e⟩
 |.tup _,x=>by obtain⟨_,_,_,o,e,_⟩:=x;exact⟨o,e⟩
 |.dK _,x=>by obtain⟨_,_,_,_,o,es,ep,e,_⟩:=x;exact⟨o,e⟩
 |.dT _,x=>by obtain⟨_,_,_,_,o,es,ep,e,_⟩:=x;exact⟨o,e⟩
 |.set _ _,x=>by obtain⟨o,es,ep,t,e,_⟩:=x;exact⟨o,e⟩
 |.ins _ _ _,x=>by obtain⟨_,_,_,e,_⟩:=x;exact⟨_,e⟩
 |.own _,x=>x
 |.xd _,x=>by obtain⟨mA,n,_⟩:=x;obtain⟨od,e,_⟩:=Ds n;exact⟨od,e⟩
 |.ku _ _,x=>by obtain⟨_,_,_,e⟩:=x;exact⟨_,e⟩
 |.iO _ _,x=>⟨_,x.1⟩
 |.mR _,x=>⟨_,x⟩
 |.met _ _,x=>⟨_,x⟩
 |.ext _,x=>x.2.1
def zg(H':Hp)(h0:Heap)(l:List Env)(e:Value)(C:Addr)(h:Heap):Prop :=
 ∃(ea:Addr) (a0:Value) (B:Heap),e=.ref ea/\Heap.FlyingW B l ea (.ref C) a0 h/\∀b o,h.get? b=some o->b∉fe l->(H' b≠none\/∃o0,h0.get? b=some o0)->B.get? b=some o
def gg(P:Program)(w:World):lF:=λouter H s E e s'=>∃(C:Addr) (H':Hp),s'.os=s.os/\AllBare s'.gens/\Un (fe outer) [] H H' s.heap s'.heap/\fz P w H' s'.heap/\zg H' s.heap outer e C s'.heap/\E (.ref C) none H'
section
variable{pins:List (Addr×Obj)}{E:XK}{e:Value}
theorem Inv.flew(I:Inv X pins Z H s)(h:gg X.prog X.w X.stack H s E e s'):∃C H',Inv X pins Z H' s'/\zg H' s.heap X.stack e C s'.heap/\E (.ref C) none H':=by
 obtain⟨C,H',ho,hb,hu,bz,fl,hE⟩:=h;exact⟨C,H',I.zj (ch:=[]) ho hu bz hb (by simp),fl,hE⟩
theorem Z0(I:Inv X pins Z H s){b:Addr}(hb:b∈fe X.stack):∃o,s.heap.get? b=some o/\∀vs,o.data≠.fields vs:=(I.stack.mem hb).2
theorem zk{lM:Heap}(I:Inv X pins Z H s)(et:X.stack=X.env::X.outer)(hex:X.ex=[])(hf:X.env.frame=some X.env.locals)(pj:∀b o,s.heap.get? b=some o->b∉fe X.stack->(H b≠none\/∃o0,X.cR.heap.get? b=some o0)->B.get? b=some o)(sl:∀b∈fe X.stack,∀o,s.heap.get? b=some o->∃sl,lM.get? b=some { o with slots:=sl })(fw:Heap.FlyingW B X.outer ea (.ref C) a0 lM)(hE:E (.ref C) none H):gg X.prog X.w X.outer X.iy X.cR E (.ref ea) { s with heap:=lM }:=by
 have wb:∀b,b∈fe X.outer->b∈fe X.stack:=λb hb=>by rw[et];unfold fe at hb ⊢;rw[dG,hf];exact bH _ hb
 have qx:∀b o,X.cR.heap.get? b=some o->b∉fe X.outer->b∉fe X.stack:=λb o e hb z=>by
  rcases ay.mp (I.J9 b z) with z|z
  ·exact absurd (ao e) (by rw[z];exact ja.mpr I.ok.above)
  ·exact hb z
 have ml:∀b u,H b=some u->b∉fe X.stack:=λb u e z=>by rw[I.uW b z] at e;cases e
 have kept:∀b o,s.heap.get? b=some o->b∉fe X.stack->(H b≠none\/∃o0,X.cR.heap.get? b=some o0)->lM.get? b=some o:=λb o e n q=>fw.1 b o (pj b o e n q);have qz:∀b,b∉X.ex:=λb=>by rw[hex];simp
 refine⟨C,H,I.os,I.bare,⟨?_,?_,?_,?_,I.base.gI,I.base.gy,I.base.gJ⟩,?_,⟨ea,a0,B,rfl,fw,?_⟩,hE⟩
 ·exact λb o e n1 n2 _=>kept b o (I.base.keep b o e n1 n2 (qz b)) (qx b o e n2) (.inr ⟨o,e⟩)
 ·intro b o e n1 n2 _;obtain⟨Gq,e1⟩:=I.base.slot b o e n1 n2 (qz b);obtain⟨jK,e2⟩:=sl b (wb b n2) _ e1;exact⟨jK,e2⟩
 ·exact λb o e n1 _=>I.base.free b o e n1 (qz b)
 ·intro b o e _;obtain⟨o1,e1⟩:=I.base.there b o e (qz b);by_cases hb:b∈fe X.stack
  ·obtain⟨jK,e2⟩:=sl b hb _ e1;exact⟨_,e2⟩
  ·exact⟨o1,kept b o1 e1 hb (.inr ⟨o,e⟩)⟩
 ·intro a o e;exact (I.bz a o e).T6 (λb u hb q=>by
   have jt:∃v,H b=some v:=by
    rcases hb with rfl|hb
    ·exact⟨o,e⟩
    ·exact⟨_,hb⟩
   obtain⟨v,hv⟩:=jt;exact kept b u q (ml b v hv) (.inl (by rw [hv];simp))) (λb hb=>hb) (λb xs hb=>hb)
 ·intro b o e n q;rcases q with q|⟨o0,q⟩
  ·obtain⟨v,hv⟩:=lV.mp q;obtain⟨o1,e1⟩:=(I.bz b v hv).get;have z:=pj b o1 e1 (ml b v hv) (.inl (by rw[hv];simp));have z':=fw.1 b o1 z;have:o=o1:=by
    have e':lM.get? b=some o:=e;rw[z'] at e';exact(aG e').symm
   subst this;exact z
  ·obtain⟨o1,e1⟩:=I.base.there b o0 q (qz b);have z:=pj b o1 e1 (qx b o0 q n) (.inr ⟨o0,q⟩);have z':=fw.1 b o1 z;have:o=o1:=by
    have e':lM.get? b=some o:=e;rw[z'] at e';exact(aG e').symm
   subst this;exact z
theorem Vh{h0:Heap}{Ex:Value->Shared->Prop}(I:Inv X pins Z H s)(fl:zg H h0 X.stack e C s.heap)(HY:∀b o,X.cR.heap.get? b=some o->∃o',h0.get? b=some o')(et:X.stack=X.env::X.outer)(hex:X.ex=[])(hf:X.env.frame=some X.env.locals)(hE:E (.ref C) none H):wpAny (model X.prog X.w) X.A (leaving X.env e) (λ_ mm=>gg X.prog X.w X.outer X.iy X.cR E e mm) Ex s:=by
 obtain⟨ea,a0,B,rfl,fw,hB⟩:=fl;have XW:=fw;rw[et] at fw;refine wpAny_leaves_onW (by rw[I.ok.frames,et]) hf fw λlM ua us=>?_;refine zk I et hex hf (λb o e n q=>hB b o e n (q.imp id λ⟨o0,q⟩=>HY b o0 q)) (λb hb o e=>?_) ua hE;obtain⟨o1,e1,nf⟩:=Z0 I hb;rw[e] at e1;cases e1;exact us b o e nf
theorem TN{h':Heap}{vs:List Value}{Ex:Value->Shared->Prop}(I:Inv X pins Z H s)(hx:Heap.MadeExcOf s.heap h' ea (.ref C) vs)(et:X.stack=X.env::X.outer)(hex:X.ex=[])(hf:X.env.frame=some X.env.locals)(hE:E (.ref C) none H):wpAny (model X.prog X.w) X.A (leaving X.env (.ref ea)) (λ_ mm=>gg X.prog X.w X.outer X.iy X.cR E (.ref ea) mm) Ex { s with heap:=h' }:=by
 have pz:=I.stack;rw[et] at pz;have Hq:∀env∈(X.env::X.outer),∀b,env.frame=some b->b∈fe X.stack:=λenv he b hb=>by rw[et];exact jc.mpr ⟨env,he,hb⟩
 refine wpAny_leaves_madeW (s:={ s with heap:=h' }) (base:=PySem.W.hideAll s.heap (fe X.stack)) (h:=s.heap) (by rw[I.ok.frames,et]) hf (λb o q=>F' _ q) (PySem.W.funFrames_hide pz Hq) hx λlM t fw _ _ us=>?_;refine(show gg X.prog X.w X.outer X.iy X.cR E (.ref ea) { s with heap:=lM } from zk I et hex hf (λb o e n _=>Af _ e n) (λb hb o e=>?_) fw hE);obtain⟨o1,e1,nf⟩:=Z0 I hb;rw[e] at e1;cases e1;exact us b o (hx.keeps b o e) nf
theorem Xa{l:List Env}{h0 h h1:Heap}{Pg:Program}(u:Un (fe l) [] H H' h0 h)(ok:fz Pg w H' h)(hB:∀b o,h.get? b=some o->b∉fe l->(H' b≠none\/∃o0,h0.get? b=some o0)->B.get? b=some o)(st:B.StaysIn h1)(us:h.UpToSlots h1)(AZ:∀b∈fe l,H' b=none/\∃o,h.get? b=some o/\∀vs,o.data≠.fields vs):Un (fe l) [] H H' h0 h1/\fz Pg w H' h1/\∀b o,h1.get? b=some o->b∉fe l->(H' b≠none\/∃o0,h0.get? b=some o0)->B.get? b=some o:=by
 have ml:∀b u,H' b=some u->b∉fe l:=λb u e z=>by rw[(AZ b z).1] at e;cases e
 have kept:∀b o,h.get? b=some o->b∉fe l->(H' b≠none\/∃o0,h0.get? b=some o0)->h1.get? b=some o:=λb o e n q=>st b o (hB b o e n q);have Bn:∀b∈fe l,∀o,h.get? b=some o->∃sl,h1.get? b=some { o with slots:=sl }:=λb hb o e=>by
  obtain⟨_,o1,e1,nf⟩:=AZ b hb;rw[e] at e1;cases e1;exact us b o e nf
 refine⟨⟨?_,?_,u.free,?_,u.gI,u.gy,u.gJ⟩,?_,?_⟩
 ·exact λb o e n1 n2 n3=>kept b o (u.keep b o e n1 n2 n3) n2 (.inr ⟨o,e⟩)
 ·intro b o e n1 n2 n3;obtain⟨Gq,e1⟩:=u.slot b o e n1 n2 n3;obtain⟨jK,e2⟩:=Bn b n2 _ e1;exact⟨jK,e2⟩
 ·intro b o e n;obtain⟨o1,e1⟩:=u.there b o e n;by_cases hb:b∈fe l
  ·obtain⟨jK,e2⟩:=Bn b hb _ e1;exact⟨_,e2⟩
  ·exact⟨o1,kept b o1 e1 hb (.inr ⟨o,e⟩)⟩
 ·intro a o e;exact (ok a o e).T6 (λb u hb q=>by
   have jt:∃v,H' b=some v:=by
    rcases hb with rfl|hb
    ·exact⟨o,e⟩
    ·exact⟨_,hb⟩
   obtain⟨v,hv⟩:=jt;exact kept b u q (ml b v hv) (.inl (by rw [hv];simp))) (λb hb=>hb) (λb xs hb=>hb)
 ·intro b o e n q;have:∃o1,h.get? b=some o1:=by
   rcases q with q|⟨o0,q⟩
   ·obtain⟨v,hv⟩:=lV.mp q;exact(ok b v hv).get
   ·exact u.there b o0 q (by simp)
  obtain⟨o1,e1⟩:=this;have z:=hB b o1 e1 n q;rw[st b o1 z] at e;cases e;exact z
structure Lies(X:Cx)(H H':Hp)(s:Shared)(B:Heap)(ea C:Addr)(a0:Value)(s':Shared):Prop where
 os:s'.os=s.os
 bare:AllBare s'.gens
 un:Un (fe X.stack) [] H H' s.heap s'.heap
 bz:fz X.prog X.w H' s'.heap
 pj:∀b o,s'.heap.get? b=some o->b∉fe X.stack->(H' b≠none\/∃o0,s.heap.get? b=some o0)->B.get? b=some o
theorem Lies.inv(I:Inv X pins Z H s)(l:Lies X H H' s B ea C a0 s'):Inv X pins Z H' s':=I.zj (ch:=[]) l.os l.un l.bz l.bare (by simp)
theorem leave_held{Ex:Value->Shared->Prop}(I:Inv X pins Z H s)(l:Lies X H H' s B ea C a0 s')(hh:Heap.HeldW B X.stack ea (.ref C) a0 X.env.locals s'.heap)(et:X.stack=X.env::X.outer)(hex:X.ex=[])(hf:X.env.frame=some X.env.locals)(hE:E (.ref C) none H'):wpAny (model X.prog X.w) X.A (leaving X.env (.ref ea)) (λ_ mm=>gg X.prog X.w X.outer X.iy X.cR E (.ref ea) mm) Ex s':=by
 have J:=l.inv I;have wA:=hh;rw[et] at wA;unfold leaving;refine aa (wpAny_noteFrame_againW hf wA.2.2.2 ?_);refine wpAny_landsW wA λlM fl us=>?_;obtain⟨k1,k2,⟨_,_,k3⟩,k4⟩:=fl;refine zk J et hex hf (λb o e n q=>l.pj b o e n (q.imp id λ⟨o0,q⟩=>I.base.there b o0 q (by rw[hex];simp))) (λb hb o e=>?_) ⟨k1,k2,k3,k4⟩ hE;obtain⟨o1,e1,nf⟩:=Z0 J hb;rw[e] at e1;cases e1;exact us b o e nf
def uL(X:Cx)(Ξ:XK):Prop:=∀(pins:List (Addr×Obj)) (Z:St) (H:Hp) (s:Shared) (h':Heap) (ea C:Addr) (vs:List Value),Inv X pins Z H s->Heap.MadeExcOf s.heap h' ea (.ref C) vs->Ξ (.ref C) none H->X.xe (.ref ea) { s with heap:=h' }
def sN(X:Cx)(Ξ:XK):Prop:=∀(pins:List (Addr×Obj)) (Z:St) (H H':Hp) (s s':Shared) (B:Heap) (ea C:Addr) (a0:Value),Inv X pins Z H s->Lies X H H' s B ea C a0 s'->Heap.HeldW B X.stack ea (.ref C) a0 X.env.locals s'.heap->Ξ (.ref C) none H'->X.xe (.ref ea) s'
def Kv(C:Addr)(Ξ:XK)(t:TA):TS:=λ_ Z H=>t Z H λvs H1=>vs.length<=sizeLine/\Ξ (.ref C) none H1
theorem Wt{x:Str}{B newId fP:String}{bm:List Value}{np dy:Pos}{iP:Expr}{rest:List Expr}{t:TA}{Ξ:XK}(hc:X.calm=true)(O:OwnCls x C bm newId X.mg X.base)(FB:ExcBaseFacts B newId fP bm)(hg:Gl X x)(ha:PA X (iP::rest) t)(hr:uL X Ξ)(he:starEach (iP::rest) X.env=(false,eval iP X.env)::starEach rest X.env)(dP:(backTo dy (starEach rest X.env)).any (·.1)=false)(hd:(x==("__debug__":Str))=false) :
  PS X (.Raise (some (.Call (.Name x np) (iP::rest) [] dy)) none pos) (Kv C Ξ t):=by
 intro pins s Z H D I h;obtain⟨tl,N,nm,q,bs,hdct,sn,sub,ab,col,dd,k0,k1,k2,k3,k5,mN,hC,hN,tU,T⟩:=O.obj;refine wpAny_Raise_call_subT (C:=C) (nm:=nm) (q:=q) (N:=N) (bs:=bs) (bm:=tl) (hdct:=hdct) (sn:=sn) (sub:=sub) (ab:=ab) (col:=col) (dd:=dd) (k0:=k0) (k1:=k1) (k2:=k2) (k3:=k3) (k5:=k5)
  FB (mN:=mN) (T.hasType FB.hasBase) (I.ok.hd hc) (by rw[he];show(false||(backTo dy (starEach rest X.env)).any (·.1))=false;rw[dP];rfl) tU (M1 I hg O.bound ⟨rfl,?_⟩ hd)
 have h':=ha dy pins s Z H _ I h;rw[he] at h' ⊢;refine fI (bg h' (λvs eZ hU=>?_) λ_ _ y=>y);obtain⟨ws,H1,I1,rv,hz,hE⟩:=hU;exact⟨rfl,by rw[<- rv.length];exact hz,I1.bk _ _ hC,hN.keeps I1.bk,T.keeps I1.bk,λh2 ea hm=>hr pins Z H1 eZ h2 ea C vs I1 hm hE⟩
def S0(X:Cx)(pins:List (Addr×Obj))(xe:Value->Shared->Prop):Cx:={ X with pn:=X.pn++pins,xe:=xe }
def C9(X:Cx)(ea:Addr):Cx:={ X with A:=X.A.mark (some (.ref ea)),calm:=false,xe:=λ_ _=>False }
theorem Inv.QO{xe:Value->Shared->Prop}(I:Inv X pins Z H s):Inv (S0 X pins xe) [] Z H s :=
 ⟨⟨I.ok.mod,I.ok.kind,I.ok.glob,I.ok.blt,I.ok.above,I.ok.inj,I.ok.has,I.ok.fu,I.ok.hd,I.ok.frames,I.ok.nL,I.ok.rT,I.ok.bs,I.ok.lD,I.ok.ji,I.ok.jG,I.ok.H9,I.ok.lN⟩,I.os,I.bare,I.base,I.loc,I.cell,I.free,I.dH,
  λp hp=>I.pin p (by simpa [S0] using hp),I.bz,I.len⟩
theorem Inv.X7{xe:Value->Shared->Prop}{gY:List (Addr×Obj)}(I:Inv (S0 X pins xe) gY Z H s):Inv X pins Z H s :=
 ⟨⟨I.ok.mod,I.ok.kind,I.ok.glob,I.ok.blt,I.ok.above,I.ok.inj,I.ok.has,I.ok.fu,I.ok.hd,I.ok.frames,I.ok.nL,I.ok.rT,I.ok.bs,I.ok.lD,I.ok.ji,I.ok.jG,I.ok.H9,I.ok.lN⟩,I.os,I.bare,I.base,I.loc,I.cell,I.free,I.dH,
  λp hp=>I.pin p (dw _ hp),I.bz,I.len⟩
theorem Inv.EK(I:Inv X pins Z H s):Inv (C9 X ea) pins Z H s :=
 ⟨⟨I.ok.mod,I.ok.kind,I.ok.glob,I.ok.blt,I.ok.above,I.ok.inj,I.ok.has,I.ok.fu,λz=>(by cases z),I.ok.frames,I.ok.nL,I.ok.rT,I.ok.bs,I.ok.lD,I.ok.ji,I.ok.jG,I.ok.H9,I.ok.lN⟩,I.os,I.bare,I.base,I.loc,I.cell,I.free,I.dH,I.pin,I.bz,I.len⟩
theorem Inv.V0(J:X.Ok)(I:Inv (C9 X ea) pins Z H s):Inv X pins Z H s :=
 ⟨J,I.os,I.bare,I.base,I.loc,I.cell,I.free,I.dH,I.pin,I.bz,I.len⟩
theorem SP.X7{xe:Value->Shared->Prop}{D:Ends}{f:Flow}(h:SP (S0 X pins xe) [] D f s):SP X pins D f s:=by
 cases f with
 |next=>obtain⟨a,b,I,q⟩:=h;exact⟨a,b,I.X7,q⟩
 |brk=>obtain⟨a,b,I,q⟩:=h;exact⟨a,b,I.X7,q⟩
 |cont=>obtain⟨a,b,I,q⟩:=h;exact⟨a,b,I.X7,q⟩
 |ret u=>obtain⟨v,a,b,I,r,q⟩:=h;exact⟨v,a,b,I.X7,r,q⟩
theorem SP.V0{ea:Addr}{D:Ends}{f:Flow}(J:X.Ok)(h:SP (C9 X ea) pins D f s):SP X pins D f s:=by
 cases f with
 |next=>obtain⟨a,b,I,q⟩:=h;exact⟨a,b,I.V0 J,q⟩
 |brk=>obtain⟨a,b,I,q⟩:=h;exact⟨a,b,I.V0 J,q⟩
 |cont=>obtain⟨a,b,I,q⟩:=h;exact⟨a,b,I.V0 J,q⟩
 |ret u=>obtain⟨v,a,b,I,r,q⟩:=h;exact⟨v,a,b,I.V0 J,r,q⟩
def Z8(X:Cx)(D:Ends)(C:Addr)(H:Hp):List ExceptHandler->Prop
 |.ExceptHandler (some (.Name x _)) none (sj::mS) _::rest=>Gl X x/\(x==("__debug__":Str))=false/\∃C' b,X.mg x=some (.ref C')/\PySem.W.exmOne X.K (.ref C) (.ref C')=some b /\
   (if b=true then ∃t:TS,(∀ea,ic (C9 X ea) (sj::mS) t)/\t D (List.replicate X.N.length none) H else Z8 X D C H rest)
 |[]=>∃Ξ:XK,sN X Ξ/\Ξ (.ref C) none H
 |_=>False
end
section
variable{pins:List (Addr×Obj)}{e:Value}{D:Ends}
def pY(X:Cx)(pins:List (Addr×Obj))(D:Ends)(hs:List ExceptHandler):Value->Shared->Prop:=λe bI =>
 wpAny (model X.prog X.w) X.A (noteFrame e X.env) (λ_ eZ=>wpAny (model X.prog X.w) X.A (setFlight e none) (λ_ dZ=>wpAny (model X.prog X.w) X.A (handleBy e X.env hs) (SP X pins D) X.xe dZ) X.xe eZ) X.xe bI
theorem Lies.step{h1:Heap}(I:Inv X pins Z H s)(l:Lies X H H' s B ea C a0 s')(st:B.StaysIn h1)(us:s'.heap.UpToSlots h1):Lies X H H' s B ea C a0 { s' with heap:=h1 }:=by
 have J:=l.inv I;obtain⟨u,ok,ib⟩:=Xa l.un l.bz l.pj st us λb hb=>⟨J.uW b hb,Z0 J hb⟩
 exact⟨l.os,l.bare,u,ok,ib⟩
theorem UE{l:List Env}{L:Addr}{cls:Value}{A:Around}{M:Model}{E:Value->Shared->Prop}{Q:Unit->Shared->Prop}(fw:Heap.FlyingW B l ea cls a0 s.heap)(h:∀h',Heap.HeldW B l ea cls a0 L h'->(∀b o,s.heap.get? b=some o->(∀vs,o.data≠.fields vs)->h'.get? b=some o)->Q () { s with heap:=h' }):wpAny M A (setFlight (.ref ea) (some L)) Q E s:=by
 obtain⟨f1,f2,f3,oe,vs,T,oT,ts,he,mF,hd,h1,AS,Be,hT,tW,h3⟩:=fw;have qO:3<ts.size:=(Array.getElem?_eq_some_iff.mp h3).1;have other:∀b,b≠T->(s.heap.update T (Obj.mapFields (·.setIfInBounds 3 ((some L).elim Value.none λf=>rawInt f)))).get? b=s.heap.get? b :=
  λb hb=>bT _ _ (ba hb)
 have jj:∀b o,s.heap.get? b=some o->(∀vs,o.data≠.fields vs)->b≠T:=λb o hb qS q=>by
  rw[q,hT] at hb;injection hb with hb;subst hb;exact qS ts tW
 unfold setFlight;refine aa (jv he hd h1 ?_);rw[aJ (show(Value.ref T != Value.none)=true from by simp)];refine dh hT tW qO (h _ ⟨λb o wF=>(other b λq=>by rw [q,AS] at wF;cases wF).trans (f1 b o wF),f2,
  f3.of_keeps λb o hb qS=>⟨o,(other b (jj b o hb qS)).trans hb,rfl⟩,?_⟩ λb o hb qS=>(other b (jj b o hb qS)).trans hb)
 exact⟨oe,vs,T,_,_,(other ea (ba Be)).trans he,mF,hd,h1,AS,Be,aT _ hT (cQ (bh tW _)),bh tW _,by simp[qO]⟩
theorem Dj{B:Heap}{ea C:Addr}{a0:Value}(hf:X.env.frame=some X.env.locals):∀(hs:List ExceptHandler) (s':Shared),Inv X pins Z H s->Lies X H H' s B ea C a0 s'->Heap.FlyingW B X.stack ea (.ref C) a0 s'.heap->Z8 X D C H' hs ->
  wpAny (model X.prog X.w) X.A (handleBy (.ref ea) X.env hs) (SP X pins D) X.xe s'
 |[],s',I,l,fw,t=>by
  obtain⟨Ξ,hh,hE⟩:=t;refine wpAny_handleBy_nil ?_;unfold PySem.passOn;obtain⟨f1,f2,f3,oe,vs,T,oT,ts,he,mF,hd,h1,_⟩:=id fw;refine aa (jv he hd h1 ?_);rw[aB (by simp),hf];refine aa (UE fw λh2 held k=>wpAny_throw ?_);have l2:=l.step I held.1 (λb o hb hn=>⟨o.slots,k b o hb hn⟩);exact hh pins Z H H' s _ B ea C a0 I l2 held hE
 |.ExceptHandler none _ _ _::_,_,_,_,_,t=>t.elim
 |.ExceptHandler (some e) nm bd pos::rest,s',I,l,fw,t=>by
  cases e
  case Name x np =>
   cases nm with
   |some y=>exact t.elim
   |none =>
    cases bd with
    |nil=>exact t.elim
    |cons sj mS =>
     obtain⟨hg,gj,C',b,hm,hx,q⟩:=t;have J:=l.inv I;have JM:Inv (C9 X ea) pins Z H' s':=J.EK;have LT:PySem.W.Looks (model X.prog X.w) s'.heap (typeOf (.ref ea)) (.ref C):=λA Q E s2 k q=>by
      obtain⟨ob,ho,hc⟩:=fw.there;exact wpAny_typeOf_ref (k _ _ ho) (by rw[hc];exact q)
     refine wpAny_handleBy_cons (codeAny_handlers_test ?_) (by intro z;cases z);refine M1 (X:=C9 X ea) JM hg hm ?_ gj;refine(PySem.W.exm_one (M:=model X.prog X.w) J.fm LT hx).here ?_;cases b with
     |false =>
      simp only[Bool.false_eq_true,if_false] at q;exact Dj hf rest s' I l fw q
     |true =>
      simp only[if_true] at q;obtain⟨t,ht,hq⟩:=q;refine codeAny_handlers_suite ?_;refine wpAny_setFlight_noneW fw.1 fw.2.2.1 fw.2.2.2.at λh2 k1 k2 k3 k4=>?_;have l2:=l.step I k1 (λb o hb hn=>⟨o.slots,k4 b o hb hn⟩);have J2:=l2.inv I;have J3:Inv (C9 X ea) pins (List.replicate X.N.length none) H' { s' with heap:=h2 }:=(J2.weak (by rw [gU,J2.len]) λi v z=>by
       rw [cY] at z;split at z <;> cases z).EK
      refine bg (ht ea pins _ _ H' D J3 hq) (λf s2 hf=>hf.V0 I.ok) λ_ _ z=>z.elim
  all_goals exact t.elim
theorem Wd{hs:List ExceptHandler}{Ξ:XK}(et:X.stack=X.env::X.outer)(hf:X.env.frame=some X.env.locals)(hT:∀C H',Ξ (.ref C) none H'->Z8 X D C H' hs) :
  Passes (gg X.prog X.w) (S0 X pins (pY X pins D hs)) Ξ:=by
 intro gY Z H s e s' I0 h;have I:Inv X pins Z H s:=I0.X7;obtain⟨C,H',ho,hb,hu,bz,⟨ea,a0,B,rfl,fw,hB⟩,hE⟩:=h;have l:Lies X H H' s B ea C a0 s':=⟨ho,hb,hu,bz,hB⟩
 have fw:Heap.FlyingW B X.stack ea (.ref C) a0 s'.heap:=fw;show pY X pins D hs (.ref ea) s';unfold pY;have ua:=fw;rw[et] at ua;refine wpAny_looks_onW (by rw[I.ok.frames,et]) hf ua λh1 held us=>?_;have l1:=l.step I held.1 us;refine wpAny_landsW held λh2 fl Gf=>?_;have l2:=l1.step I fl.1 Gf;rw[<- et] at fl;exact Dj hf hs _ I l2 fl (hT C H' hE)
theorem JI{hs:List ExceptHandler}{h₀:ExceptHandler}{body:List Stmt}{t:Ends->TS}{Ξ:Ends->XK}(et:X.stack=X.env::X.outer)(hf:X.env.frame=some X.env.locals)(hb:∀pins D,(∀C H',Ξ D (.ref C) none H'->Z8 X D C H' (h₀::hs))->ic (S0 X pins (pY X pins D (h₀::hs))) body (t D)) :
  PS X (.Try body (h₀::hs) [] [] pos) (λD Z H=>(∀C H',Ξ D (.ref C) none H'->Z8 X D C H' (h₀::hs))/\t D D Z H):=by
 intro pins s Z H D I ⟨hT,h⟩;refine wpAny_Try_except (bg (hb pins D hT [] s Z H D I.QO h) (λf s1 q=>?_) λe s1 q=>q);have q:=q.X7;cases f with
 |next =>
  obtain⟨bD,H',I',q⟩:=q;exact cb (iU ⟨bD,H',I',q⟩) λ_ _ z=>z
 |brk=>exact q
 |cont=>exact q
 |ret u=>exact q
end
def Aa(K:PySem.W.Frag)(a:Addr):It :=
 ⟨λi H=>∃xs x,eW K H a xs/\xs[i]?=some x,λi H v H'=>∃p x,H p=none/\v=.ref p/\(∀xs,eW K H a xs->xs[i]?=some x)/\H'=upd H p (.tup [.int i,x]),λi H=>∃xs,eW K H a xs/\xs.length<=i⟩
theorem Tq{P:Program}{K:PySem.W.Frag}{elts:List Expr}{x1:Nat}{tp:Pos}(a e it:Addr)(Ba:e≠it):Turn P w K (.Tuple elts x1 tp) (Aa K a) [e,it] e (λi h=>(∃old,IsEnum h e it i old)/\h.IsListIter it a i) where
 mem:=by simp
 obj:=λi h st b hb=>by
  obtain⟨⟨old,h1⟩,o,h2,c,d⟩:=st;rcases ay.mp hb with z|z
  ·subst z;exact ⟨_,h1,λv z=>by
    have z':Data.fields _=Data.cell v:=z;cases z'⟩
  ·have z:b=it:=by simpa using z
   subst z;exact⟨o,h2,λv z=>by rw[d] at z;cases z⟩
 keep:=λi h h' st k=>by
  obtain⟨⟨old,h1⟩,h2⟩:=st;exact⟨⟨old,k e (by simp) _ h1⟩,h2.at λo x=>k it (by simp) o x⟩
 item:=by
  intro X hP hw hK hc i pins s Z H E I hf st hg;subst hP hw hK;obtain⟨⟨old,h1⟩,h2⟩:=st;obtain⟨xs,x,hq,hx⟩:=hg;obtain⟨aN,rv,p,hz⟩:=I.list hq;obtain⟨u,hu,ru⟩:=rv.get hx;obtain⟨e0,e1,e2,e3,e4,e5⟩:=hf e (by simp);obtain⟨f0,f1,f2,f3,f4,f5⟩:=hf it (by simp);refine wpAny_pyNext_enum_item h1 h2 p.isList (x:=u) (by simpa using hu) Ba λh' nc wy qN AM qV=>?_;refine⟨_,rfl,wpAny_letOwnedTupleGo_enum nc λrK Hu hX=>?_⟩;have hX:Heap.SameBut e h' rK:=hX;have elt:e<s.heap.objs.size:=ao h1;have kp:∀b o,b≠e->b≠it->s.heap.get? b=some o->rK.get? b=some o:=λb o b1 b2 q=>(hX.2 b b1).trans (qV b o b1 b2 q);have hn:H s.heap.objs.size=none:=I.bz.fresh (aj _);have vF:rK.get? s.heap.objs.size=some { cls:=.type "tuple",data:=.seq #[.int i s.toks,u] }:=(hX.2 _ (bU elt)).trans qN;have ne:∀b u',H b=some u'->b≠e/\b≠it:=λb u' q=>And.intro (λ(z:b=e)=>by rw[z,e0] at q;cases q) (λ(z:b=it)=>by rw[z,f0] at q;cases q);have bz:fz X.prog X.w (upd H s.heap.objs.size (.tup [.int i,x])) rK:=λb o q=>by
   by_cases hb:b=s.heap.objs.size
   ·subst hb;rw[m6] at q;cases q;exact⟨by show 2<=sizeLine;decide,[.int i s.toks,u],.cons ⟨_,rfl⟩ (.cons ru .nil),_,vF,rfl,⟨_,rfl⟩,rfl⟩
   ·rw[f7 hb] at q;refine(I.bz b o q).T6 (λc v hc q'=>?_) (λc q'=>by rw[f7 (j6 q' hn)];exact q') λc ys q'=>by rw[f7 (j6 q' hn)];exact q'
    rcases hc with z|z
    ·subst z;exact kp _ _ (ne _ _ q).1 (ne _ _ q).2 q'
    ·exact kp _ _ (ne _ _ z).1 (ne _ _ z).2 q'
  have I2:Inv X pins Z (upd H s.heap.objs.size (.tup [.int i,x])) { s with heap:=rK,toks:=s.toks+1 }:=by
   refine I.step (g':=s.gens) (d':=s.drawn) (t':=s.toks+1) (ch:=[e,it]) (λb hb=>?_) (λb o _ _ hb q _=>kp b o (λz=>hb (by simp[z])) (λz=>hb (by simp[z])) q) (λb o _ _ hb q _=>⟨o.slots,kp b o (λz=>hb (by simp[z])) (λz=>hb (by simp[z])) q⟩)
    (λb o _ q n=>by rw[f7 (aI (ao q))];exact n) (λb o hb q=>⟨o,kp b o (λz=>hb (by simp[z])) (λz=>hb (by simp[z])) q⟩)
    (λb ys q=>by rw[f7 (j6 q hn)];exact q) (λb o' ys q=>by rw[f7 (j6 q hn)];exact q) (λb ps q=>⟨#[],by rw[f7 (j6 q hn),q];simp⟩) (λm hm=>?_) bz I.bare
   ·rcases ay.mp hb with z|z
    ·subst z;exact⟨e3,e1,e4,e5⟩
    ·have z:b=it:=by simpa using z
     subst z;exact⟨f3,f1,f4,f5⟩
   ·obtain⟨o,es,ep,ho,r⟩:=hm;exact⟨o,es,ep,kp _ o (ba e1) (ba f1) ho,r⟩
  refine⟨.ref s.heap.objs.size,_,I2,rfl,⟨s.heap.objs.size,x,hn,rfl,λys hy=>by rw[I.yL hy hq];exact hx,rfl⟩,⟨⟨u,by simpa using Hu⟩,wy.at λo y=>(hX.2 it Ba.symm).trans y⟩,λb hb=>?_⟩;have jt:b<s.heap.objs.size:=by
   rcases ay.mp hb with z|z
   ·subst z;exact elt
   ·have z:b=it:=by simpa using z
    subst z;obtain⟨o,h2,_⟩:=h2;exact ao h2
  rw[f7 (aI jt)];exact(hf b hb).1
 done:=by
  intro X hP hw hK hc i pins s Z H E I hf st hg;subst hP hw hK;obtain⟨⟨old,h1⟩,h2⟩:=st;obtain⟨xs,hq,hx⟩:=hg;obtain⟨aN,rv,p,hz⟩:=I.list hq;obtain⟨f0,f1,f2,f3,f4,f5⟩:=hf it (by simp);have hl:=rv.length;exact wpAny_pyNext_enum_end (I.ok.hd hc) h1 h2 p.isList (by simp;omega) λh' eb=>⟨rfl,I.turned (t':=s.toks) (λb o hb e=>eb b o hb e) f0 f1 f3 f4 f5⟩
 self:=λ_ _ _ _ _ st h=>by
  obtain⟨⟨old,h1⟩,h2⟩:=st;exact wpAny_pyIter_enum h1 h
theorem Md{l:Expr}{tp:Pos}{elts:List Expr}{x1:Nat}(hg:Gl X "enumerate")(hm:X.mg "enumerate"=none)(ha:PA X [l] ta)(hs:starEach [l] X.env=[(false,eval l X.env)]) :
  PI X (.Tuple elts x1 tp) (.Call (.Name "enumerate" p) [l] [] pos) (λZ H R=>ta Z H λvs H1=>∃a,vs=[.ref a]/\(∃xs,eW X.K H1 a xs)/\R (Aa X.K a) H1):=by
 intro pins s Z H R I h;refine Call_ (K6 I hg hm PyProof.Rows.boot_enumerate (bx (cb (ha pos pins s Z H _ I h) λus s1 aV=>?_) hs rfl));obtain⟨vs,H1,I1,r1,q1⟩:=aV;obtain⟨a,e,⟨xs,hq⟩,q⟩:=q1;subst e;cases r1 with
 |cons r rr =>
  cases rr;cases r;obtain⟨aN,rv,p,hz⟩:=I1.list hq;refine call_enumerate_list p.isList λh' he hit hsz hk=>wpAny_pyIter_enum he ?_;refine⟨s1.heap.objs.size+1,[s1.heap.objs.size+1,s1.heap.objs.size],_,_,H1,rfl,I1.kept (t':=s1.toks) hk,Tq a _ _ (by simp),⟨⟨_,he⟩,hit⟩,λb hb=>?_,q⟩;have jt:s1.heap.objs.size<=b:=by
   rcases ay.mp hb with z|z
   ·rw[z];exact fS _
   ·have z:b=s1.heap.objs.size:=by simpa using z
    rw[z];exact aj _
  exact I1.nz jt (I1.bz.fresh jt)
theorem Qk{e:Expr}{t:TE}(he:PE X e t):PE X (.FormattedValue e (-1) none pos) (λZ H Q=>t Z H λx H1=>(∃i,x=.int i/\i.natAbs.log2<1920/\Q (.str (toString i)) H1)\/∃y,x=.str y/\y.length<=sizeLine/\Q (.str y) H1):=by
 intro pins s Z H Q I h;refine wpAny_FormattedValue_plain (cb (he pins s Z H _ I h) λv s1 aV=>?_);obtain⟨x,H1,I1,r1,q1⟩:=aV;rcases q1 with⟨i,rfl,hd,q⟩|⟨y,rfl,hy,q⟩
 ·obtain⟨t,rfl⟩:=r1;exact wpAny_formatField_int hd ⟨.str _,H1,I1.tok _,⟨_,rfl⟩,q⟩
 ·obtain⟨t,rfl⟩:=r1;exact wpAny_formatField_str ⟨.str _,H1,I1,⟨_,rfl⟩,q⟩ ⟨.str _,H1,I1.tok _,⟨_,rfl⟩,q⟩ hy
inductive pZ(X:Cx):List Expr->List TE->Prop
 |nil:pZ X [] []
 |cons {e:Expr} {t:TE} {es:List Expr} {ts:List TE} (h:PE X e t) (r:pZ X es ts):pZ X (e::es) (t::ts)
def uz:List TE->St->Hp->Str->(Str->Hp->Prop)->Prop
 |[],_,H,acc,Q=>Q acc H
 |t::ts,Z,H,acc,Q=>t Z H λx H1=>∃y,x=.str y/\(acc++y).length<=sizeLine/\uz ts Z H1 (acc++y) Q
theorem FL{pins:List (Addr×Obj)}{Z:St}{Q:Str->Hp->Prop}:∀{es:List Expr} {ts:List TE},pZ X es ts->∀{s:Shared} {H:Hp} {acc:Str},Inv X pins Z H s->uz ts Z H acc Q ->
  Joins (model X.prog X.w) X.A X.xe (evalEach es X.env) acc (λout s1=>∃H1,Inv X pins Z H1 s1/\Q out H1) s
 |_,_,.nil,s,H,acc,I,h=>⟨H,I,h⟩
 |_,_,.cons he r,s,H,acc,I,h=>by
  rw[arm_evalEach_cons];refine cb (he pins s Z H _ I h) λv s1 aV=>?_;obtain⟨x,H1,I1,r1,y,ey,hy,q1⟩:=aV;subst ey;obtain⟨t,rfl⟩:=r1;exact⟨y,t,rfl,hy,FL r I1 q1⟩
theorem Dz{M:Model}{A:Around}{E:Value->Shared->Prop}{Q Q':Str->Shared->Prop}(hq:∀x s,Q x s->Q' x s):∀{l:List (Sem Value)} {acc:Str} {s:Shared},Joins M A E l acc Q s->Joins M A E l acc Q' s
 |[],acc,s,h=>hq _ _ h
 |x::r,acc,s,h=>cb h λv s1 ⟨y,t,e,hz,h1⟩=>⟨y,t,e,hz,Dz hq h1⟩
theorem L'{ka jZ:Expr}{rest:List Expr}{ts:List TE}(h:pZ X (ka::jZ::rest) ts):PE X (.JoinedStr (ka::jZ::rest) pos) (λZ H Q=>uz ts Z H Str.empty λout H1=>out.length<=sizeLine/\Q (.str out) H1):=by
 intro pins s Z H Q I hw;refine wpAny_JoinedStr (Dz (λx s1 ⟨H1,I1,hl,q⟩=>⟨hl,.str x,H1,I1.tok _,⟨_,rfl⟩,q⟩) (FL h I hw))
theorem TL{lo:Int}{acc:Array Value}{n:Nat}(h:ItemsOf (λi v=>∃t,v=.int (lo+i*1) t) acc n):Vals ((List.range n).map λ(k:Nat)=>V.int (lo+k)) acc.toList:=by
 have hl:acc.toList.length=n:=by
  have:=h.1;simpa using this
 have go:∀(m:Nat) (l:List Value),l.length<=n->m+l.length=n->(∀i v,l[i]?=some v->∃t,v=Value.int (lo+((m+i:Nat):Int)) t)->Vals ((List.range' m l.length).map λ(k:Nat)=>V.int (lo+k)) l:=by
  intro m l
  induction l generalizing m with
  |nil=>intro _ _ _;exact .nil
  |cons x r ih =>
   intro h1 h2 h3;simp only[List.length_cons,List.range'_succ,List.map_cons];refine .cons ?_ (ih (m+1) (by simp at h1;omega) (by simp at h2;omega) λi v hv=>?_)
   ·obtain⟨t,e⟩:=h3 0 x rfl;exact⟨t,by rw[e];simp⟩
   ·obtain⟨t,e⟩:=h3 (i+1) v (by simpa using hv);exact⟨t,by rw[e,show m+(i+1)=m+1+i by omega]⟩
 have:=go 0 acc.toList (by omega) (by omega) λi v hv=>?_
 ·rw[hl,<- List.range_eq_range'] at this;exact this
 ·have hi:i<n:=by
   have:=(az.mp hv).1;omega
  have:acc[i]?=some v:=by rw[<- eN];exact hv
  obtain⟨t,e⟩:=h.2 i v this;refine⟨t,?_⟩;rw[e];simp
theorem Eh(hc:X.calm=true):m5 X (.type "list") (λxs H Q=>∃a lo hi,xs=[.ref a]/\H a=some (.ku lo hi)/\(-(2 ^ 62)<=lo/\lo<2 ^ 62/\-(2 ^ 62)<=hi/\hi<2 ^ 62/\hi-lo<=100000)/\∀p,H p=none->Q (.ref p) (upd H p (.lst ((List.range (hi-lo).toNat).map λ(k:Nat)=>V.int (lo+k))))):=by
 intro pins s Z H xs us Q I r h;obtain⟨a,lo,hi,rfl,ha,⟨h1,h2,h3,h4,h5⟩,q⟩:=h;obtain⟨t,u,v,ho⟩:=I.bz a _ ha;cases r with
 |cons r rr =>
 cases rr;cases r;have hn:Builtin.Range.rangeSize lo hi 1=((hi-lo).toNat:Nat):=by rw[rangeSize_one];split<;>omega
 refine call_list_range (n:=(hi-lo).toNat) (I.ok.hd hc) ho (small_one h1 h2 h3 h4) hn (by omega) λh' iz acc c hk hS lj=>?_;have hp:H s.heap.objs.size=none:=I.bz.fresh (aj _);refine⟨.ref _,_,I.laid (a:=s.heap.objs.size) (o:=.lst ((List.range (hi-lo).toNat).map λ(k:Nat)=>V.int (lo+k))) (t':=iz) hk (aj _) ⟨?_,acc.toList,c,TL lj,by simpa using hS⟩,rfl,q _ hp⟩;rw[av,Xk];have:(hi-lo).toNat<=100000:=by omega
 exact aL this (by decide)
theorem SR{a:Expr}(hg:Gl X "range")(hm:X.mg "range"=none)(ha:PA X [a] ta)(hs:starEach [a] X.env=[(false,eval a X.env)]):PE X (.Call (.Name "range" p) [a] [] pos) (λZ H Q=>ta Z H λvs H1=>∃j:Int,vs=[.int j]/\∀q,H1 q=none->Q (.ref q) (upd H1 q (.ku 0 j))):=by
 intro pins s Z H Q I h;refine cz (K6 I hg hm boot_range (bx (cb (ha pos pins s Z H _ I h) λus s1 aV=>?_) hs rfl));obtain⟨vs,H1,I1,r1,q1⟩:=aV;obtain⟨j,e,q⟩:=q1;subst e;cases r1 with
 |cons r rr =>
  cases rr;obtain⟨t,rfl⟩:=r;exact call_range_1 ⟨.ref s1.heap.objs.size,_,I1.laid (a:=s1.heap.objs.size) (o:=.ku 0 j) (λb o e=>ai _ e) (aj _) ⟨_,_,_,au _ rfl⟩,rfl,q _ (I1.bz.fresh (aj _))⟩
theorem SS{a b:Expr}(hg:Gl X "range")(hm:X.mg "range"=none)(ha:PA X [a,b] ta)(hs:starEach [a,b] X.env=[(false,eval a X.env),(false,eval b X.env)])(hX:starEach [b] X.env=[(false,eval b X.env)]):PE X (.Call (.Name "range" p) [a,b] [] pos) (λZ H Q=>ta Z H λvs H1=>∃i j:Int,vs=[.int i,.int j]/\∀q,H1 q=none->Q (.ref q) (upd H1 q (.ku i j))):=by
 intro pins s Z H Q I h;refine cz (K6 I hg hm boot_range (bx (cb (ha pos pins s Z H _ I h) λus s1 aV=>?_) (by rw[hs,hX]) (by rw[hX];rfl)));obtain⟨vs,H1,I1,r1,q1⟩:=aV;obtain⟨i,j,e,q⟩:=q1;subst e;cases r1 with
 |cons r rr =>
  cases rr with
  |cons r' rr =>
   cases rr;obtain⟨t,rfl⟩:=r;obtain⟨t',rfl⟩:=r';exact call_range_2 ⟨.ref s1.heap.objs.size,_,I1.laid (a:=s1.heap.objs.size) (o:=.ku i j) (λb o e=>ai _ e) (aj _) ⟨_,_,_,au _ rfl⟩,rfl,q _ (I1.bz.fresh (aj _))⟩
def sv(K:PySem.W.Frag)(P:Params)(a:Addr)(kvs:List (Str×V)):Prop :=
 ∃es n,K.lookup a=some ⟨.type "dict",none,.dict es n,#[]⟩/\PySem.W.KeysLit P es.toList/\(a==sysModules)=false/\∀x,A3 (kvs.lookup x) (findBy Value.isStrOf es x)
theorem Ey{kvs:List (Str×V)}(neg:Bool):eP X (compareOp (if neg then .NotIn else .In)) (λx y H Q=>∃a z,y=.ref a/\sv X.K X.w.params a kvs/\x=.str z/\Q (.bl (xor neg (kvs.lookup z).isSome)) H):=by
 intro pins s Z H x y v u Q I rx ry h;obtain⟨a,z,rfl,⟨es,n,hl,hk,lo,hf⟩,rfl,q⟩:=h;obtain⟨t,rfl⟩:=rx;cases ry;have hm:=PySem.W.mapOf_K (prog:=X.prog) (w:=X.w) I.fm hl hk;have e:=hf z;have ee:(findBy Value.isStrOf es z).isSome=(kvs.lookup z).isSome:=by
  cases h1:kvs.lookup z<;>cases h2:findBy Value.isStrOf es z<;>rw[h1,h2] at e<;>first|rfl|exact e.elim
 cases neg
 ·exact wpAny_in_of (strKind_is X.prog X.w z t) lo hm ⟨.bl _,H,I.tok _,by rw[ee];rfl,by simpa using q⟩
 ·exact wpAny_notIn_of (strKind_is X.prog X.w z t) lo hm ⟨.bl _,H,I.tok _,by rw[ee];rfl,by simpa using q⟩
theorem Py{kvs:List (Str×V)}:oV X (λx y H Q=>∃a z v,x=.ref a/\sv X.K X.w.params a kvs/\y=.str z/\kvs.lookup z=some v/\Q v H):=by
 intro value slice pins s Z H x y v u Q I rx ry h hs;obtain⟨a,z,d,rfl,⟨es,n,hl,hk,lo,hf⟩,rfl,hz,q⟩:=h;cases rx;obtain⟨t,rfl⟩:=ry;have hm:=PySem.W.mapOf_K (prog:=X.prog) (w:=X.w) I.fm hl hk;have e:=hf z;rw[hz] at e;cases h2:findBy Value.isStrOf es z with
 |none=>rw[h2] at e;exact e.elim
 |some r =>
  rw[h2] at e;exact tail_any hm.typeIs slot_dict_getitem.lookup (wpAny_getItem_of (strKind_is X.prog X.w z t) hm h2 ⟨d,H,I.tok _,e,q⟩) hs
theorem Lp(hu:X.A.units+1<cLine):oV X (λx y H Q=>∃a v,x=.ref a/\U4 H a y (some v)/\Q v H):=by
 intro value slice pins s Z H x y v u Q I rx ry h hs;obtain⟨a,d,rfl,g,q⟩:=h;cases rx;exact tail_any (UC I g) slot_dict_getitem.lookup (Sg hu I g ry λw' s3 I3 eO=>⟨d,H,I3,eO,q⟩) hs
end L2
namespace ST
open PySem PyProof.Rows
variable{xs:Array Nat}{i k j n ep:Nat}{t:SetTable}{h h':Heap}{L:Bool}{es:Array (Int×Value)}{x f:Value}{prog:Program}{w:World}{a I b l:Addr}{ks ns:List Int}{A:Around}{E Q:Value->Shared->Prop}{s:Shared}{pl:List Nat}{α:Type}{r:Rd}{items:Array Value}
noncomputable abbrev ju(xs:Array Nat):Prop:=xs.toList.Pairwise (· < ·)
theorem ju.lt(h:ju xs)(qZ:i<k)(hk:k<xs.size):xs.getD i 0<xs.getD k 0:=by
 have:=List.pairwise_iff_getElem.mp h i k (by simpa using cx qZ hk) (by simpa using hk) qZ;simp only[Array.getElem_toList] at this;rw[<- dj (h:=cx qZ hk),<- dj (h:=hk)];exact this
theorem ju.le(h:ju xs)(qZ:i<=k)(hk:k<xs.size):xs.getD i 0<=xs.getD k 0:=by
 rcases Nat.eq_or_lt_of_le qZ with e|e
 ·rw[e];exact aj _
 ·exact cM (h.lt e hk)
theorem yx{xs:Array Nat}{j:Nat}(h:ju xs):∀(fuel lo hi:Nat),hi-lo<=fuel->lo<=hi->hi<=xs.size->(∀i,i<lo->xs.getD i 0<j)->(∀i,hi<=i->i<xs.size->j<=xs.getD i 0) ->
  SetTable.below.go xs j fuel lo hi<=xs.size/\(∀i,i<SetTable.below.go xs j fuel lo hi->xs.getD i 0<j)/\∀i,SetTable.below.go xs j fuel lo hi<=i->i<xs.size->j<=xs.getD i 0
 |0,lo,hi,h1,h2,h3,h4,h5=>by
  unfold SetTable.below.go;have:lo=hi:=by omega
  subst this;exact⟨h3,h4,h5⟩
 |fuel+1,lo,hi,h1,h2,h3,h4,h5=>by
  unfold SetTable.below.go;split
  ·rename_i hl;have hm:(lo+hi) / 2<xs.size:=by omega
   have em:xs.getD ((lo+hi) / 2) j=xs.getD ((lo+hi) / 2) 0:=by simp[Array.getD,hm]
   dsimp only;rw[em];by_cases hc:xs.getD ((lo+hi) / 2) 0<j
   ·rw[aJ hc];exact yx h fuel _ hi (by omega) (by omega) h3 (λi lj=>jb (h.le (by omega) hm) hc) h5
   ·rw[aB hc];exact yx h fuel lo _ (by omega) (by omega) (by omega) h4 λi lj hs=>aL (jW hc) (h.le lj hs)
  ·have:lo=hi:=by omega
   subst this;exact⟨h3,h4,h5⟩
theorem O9(j:Nat)(h:ju xs):SetTable.below xs j<=xs.size/\(∀i,i<SetTable.below xs j->xs.getD i 0<j)/\∀i,SetTable.below xs j<=i->i<xs.size->j<=xs.getD i 0 :=
 yx h _ 0 _ (by omega) (by omega) (aj _) (λi hi=>absurd hi (Nat.not_lt_zero _)) λi h1 h2=>absurd h2 (by omega)
theorem below_at(h:ju xs)(hi:i<xs.size):SetTable.below xs (xs.getD i 0)=i:=by
 obtain⟨h1,h2,h3⟩:=O9 (xs.getD i 0) h;rcases jy (SetTable.below xs (xs.getD i 0)) i with z|z|z
 ·exact absurd (h3 _ (aj _) (by omega)) (Nat.not_le_of_lt (h.lt z hi))
 ·exact z
 ·exact absurd (h2 i z) (aZ _)
theorem Tw(h:ju xs)(hi:i<xs.size):SetTable.below xs (xs.getD i 0+1)=i+1:=by
 obtain⟨h1,h2,h3⟩:=O9 (xs.getD i 0+1) h;rcases jy (SetTable.below xs (xs.getD i 0+1)) (i+1) with z|z|z
 ·have:=h3 i (by omega) hi;omega
 ·exact z
 ·have:=h2 (i+1) z;have:=h.lt (dC i) (k:=i+1) (by omega);omega
theorem Tx(h:ju xs):SetTable.below xs 0=0:=by
 obtain⟨_,h2,_⟩:=O9 0 h;rcases Nat.eq_zero_or_pos (SetTable.below xs 0) with z|z
 ·exact z
 ·exact absurd (h2 0 z) (Nat.not_lt_zero _)
theorem getD_mem(hi:i<xs.size):xs[i]?=some (xs.getD i 0):=by simp[Array.getD,hi]
theorem Uo(h:ju t.place)(hs:t.slot j=.empty):j∉t.place.toList:=by
 intro hm;obtain⟨i,hi,e⟩:=du.mp hm;have lj:i<t.place.size:=by simpa using hi
 have ej:t.place.getD i 0=j:=by rw[<- dj (h:=lj)];simpa using e
 have hb:=below_at h lj;rw[ej] at hb;unfold SetTable.slot at hs;dsimp only at hs;rw[hb,getD_mem lj,ej] at hs;simp at hs
theorem Uk(h:ju xs)(hj:j∉xs.toList):ju (SetTable.insertAt xs (SetTable.below xs j) j):=by
 obtain⟨h1,h2,h3⟩:=O9 j h;show(SetTable.insertAt xs (SetTable.below xs j) j).toList.Pairwise (· < ·);rw[SetTable.toList_insertAt,vp];have tk:∀a∈xs.toList.take (SetTable.below xs j),a<j:=λa ha=>by
  obtain⟨i,hi,e⟩:=du.mp ha;rw[cX] at hi;rw[List.getElem_take] at e;have hs:i<xs.size:=by simp at hi;omega
  have:=h2 i (by omega);rw[<- dj (h:=hs)] at this;simp at e;omega
 have dp:∀b∈xs.toList.drop (SetTable.below xs j),j<b:=λb hb=>by
  obtain⟨i,hi,e⟩:=du.mp hb;rw[gw] at hi;rw[List.getElem_drop] at e;have hs:SetTable.below xs j+i<xs.size:=by simp at hi;omega
  have:=h3 (SetTable.below xs j+i) (by omega) hs;rw[<- dj (h:=hs)] at this;have eA:b≠j:=λz=>hj (by rw[<- z];exact List.mem_of_mem_drop hb);simp at e;omega
 refine⟨h.take,cH.mpr ⟨dp,h.drop⟩,λa ha b hb=>?_⟩;have ki:=tk a ha;rcases ay.mp hb with z|z
 ·omega
 ·have:=dp b z;omega
theorem Te(n:Nat):ju (Array.range n):=by
 show(Array.range n).toList.Pairwise (· < ·);rw[Array.toList_range];exact qd
structure Well(L:Bool)(t:SetTable):Prop where
 tQ:ju t.place
 xK:t.dummies=#[]
 led:t.led=L
theorem VZ(hd:t.dummies=#[])(j:Nat):t.slot j≠.dummy:=by
 unfold SetTable.slot;dsimp only;split
 ·intro z;cases z
 ·rw[hd];split
  ·rename_i z;simp[SetTable.has] at z
  ·intro z;cases z
theorem Ea{t:SetTable}(hd:t.dummies=#[]){hashAt:Nat->Int}{h:Int}:∀(fuel:Nat) (p:SetTable.Probe) {j:Nat} {dm:Option Nat},p.dummy=none->SetTable.probe.go t hashAt h fuel p=some (.empty j dm)->t.slot j=.empty/\dm=none
 |0,p,j,dm,_,e=>by simp[SetTable.probe.go] at e
 |fuel+1,p,j,dm,hp,e=>by
  unfold SetTable.probe.go at e;have ad:∀q:SetTable.Probe,q.dummy=none->(t.advance q).dummy=none:=λq hq=>by
   unfold SetTable.advance;split
   ·exact hq
   ·exact hq
  split at e
  ·rename_i hs;cases e;exact⟨hs,hp⟩
  ·rename_i hs;exact absurd hs (VZ hd _)
  ·split at e
   ·cases e
   ·exact Ea hd fuel _ (ad p hp) e
theorem Sl(hd:t.dummies=#[]){h:Int}{wd:Bool}(e:t.freeSlot h=some (j,wd)):t.slot j=.empty/\wd=false:=by
 unfold SetTable.freeSlot at e;split at e
 ·rename_i j' dm hp;obtain⟨h1,h2⟩:=Ea hd _ _ rfl hp;subst h2;cases e;exact⟨h1,rfl⟩
 ·cases e
theorem K0(h:Well L t)(n:Nat):Well L (t.standIn n):=⟨Te n,rfl,h.led⟩
theorem UH{h:Int}(hw:Well L t):Well L (layNew t es h x).2.1/\(layNew t es h x).2.2.1=false:=by
 unfold layNew;split
 ·rename_i slot wd e;obtain⟨h1,h2⟩:=Sl hw.xK e;refine⟨?_,h2⟩;have hd:SetTable.has t.dummies slot=false:=by rw[hw.xK];simp[SetTable.has]
  have w2:Well L (t.put slot).1:=⟨Uk hw.tQ (Uo hw.tQ h1),by simp only[SetTable.put,hd];exact hw.xK,hw.led⟩
  dsimp only;unfold SetTable.orStandIn;split
  ·exact w2
  ·exact K0 w2 _
 ·exact⟨K0 hw _,rfl⟩
theorem Sx{mask finger moves:Nat}{led plain:Bool}{hashes:Array Int}{o:Array Nat}(hl:led=L)(e:SetTable.laid mask finger moves led plain hashes=some (t,o)):Well L t:=by
 unfold SetTable.laid at e;cases ho:SetTable.layClean mask hashes with
 |none=>rw[ho] at e;cases e
 |some owner =>
  rw[ho] at e;simp only[Option.bind_eq_bind,Option.bind_some,Option.pure_def,Option.some.injEq,Prod.mk.injEq] at e;obtain⟨rfl,_⟩:=e;refine⟨?_,rfl,hl⟩;show(List.map _ _).toArray.toList.Pairwise (· < ·);rw[List.toList_toArray];have sub:((List.range (mask+1)).filterMap λj=>(owner.getD j none).map (j,·)).map (·.1) |>.Sublist (List.range (mask+1)):=by
   generalize List.range (mask+1)=l
   induction l with
   |nil=>simp
   |cons a r ih =>
    rw[dG];cases owner.getD a none with
    |none=>exact ih.cons a
    |some k=>exact ih.cons_cons a
  exact List.Pairwise.sublist sub qd
theorem Ry(hw:Well L t):Well L (relayAll t es n).2.1:=by
 unfold relayAll;split
 ·rename_i t' order e;dsimp only;split
  ·exact Sx hw.led e
  ·exact K0 hw _
 ·exact K0 hw _
def toI:Value->Int
 |.int k _=>k
 |_=>0
def Led(w:World):Bool:=!(w.params.followText "set-order")
def o7(prog:Program)(w:World)(h:Heap)(a:Addr)(ks:List Int):Prop :=
 ∃o es ep t,h.get? a=some o/\o.ExactSet/\o.data=.set es ep t/\ElemsOf (intKind prog w) es.toList/\(es.toList.map λe=>toI e.2).Perm ks/\ks.Nodup/\es.size<scanBound/\t.fits es.size=true/\Well (Led w) t
theorem o7.at(x:o7 prog w h a ks)(k:∀o,h.get? a=some o->h'.get? a=some o):o7 prog w h' a ks:=by
 obtain⟨o,es,ep,t,e,r⟩:=x;exact⟨o,es,ep,t,k o e,r⟩
theorem ET{e:Int×Value}{es:List (Int×Value)}(h:ElemsOf (intKind prog w) es)(he:e∈es):∃tk,e.2=.int (toI e.2) tk/\e.1=(intKind prog w).hash (toI e.2):=by
 obtain⟨⟨k,h1,h2⟩,_⟩:=h e he;obtain⟨t,ht⟩:=lU (k:=k) (v:=e.2) h1;refine⟨t,by rw[ht];rfl,?_⟩;rw[h2,ht]
 rfl
theorem Ep{e:Int×Value}{es:List (Int×Value)}(h:ElemsOf (intKind prog w) es)(he:e∈es)(k:Int):(intKind prog w).is k e.2=decide (toI e.2=k):=by
 obtain⟨t,ht,_⟩:=ET h he;show Value.isInt k e.2=_;rw[ht];generalize toI e.2=m;show Value.isInt k (.int m t)=decide (m=k);by_cases z:m=k
 ·subst z;simp[Value.isInt]
 ·rw[aw z];cases hv:Value.isInt k (.int m t) with
  |false=>rfl
  |true =>
   obtain⟨t',e'⟩:=lU hv;cases e';exact absurd rfl z
theorem o7.mem{a:Addr}{es:List (Int×Value)}(h:ElemsOf (intKind prog w) es)(hp:(es.map λe=>toI e.2).Perm ks)(k:Int):(es.findIdx? λe=>(intKind prog w).is k e.2).isSome=decide (k∈ks):=by
 rw[bL,cu,<- hp.mem_iff,aF,dN];constructor
 ·rintro⟨i,hi⟩;obtain⟨h1,h2,_⟩:=js.mp hi;have hm:=dD h1;rw[Ep h hm] at h2;exact⟨_,hm,aS h2⟩
 ·rintro⟨e,he,rfl⟩;cases hf:es.findIdx? λe'=>(intKind prog w).is (toI e.2) e'.2 with
  |some i=>exact⟨i,rfl⟩
  |none =>
   have:=List.findIdx?_eq_none_iff.mp hf e he;rw[Ep h he] at this;simp at this
def A2(ks:List Int)(k:Int):List Int:=if k∈ks then ks else ks++[k]
theorem Nb(ks:List Int)(k:Int):(A2 ks k).length<=ks.length+1:=by unfold A2;split<;>simp
theorem BL{k:Int}{tk:Tok}{Q:Bool->Shared->Prop}(hS:o7 prog w s.heap a ks)(hr:ks.length+1<scanBound)(h:∀h' b,Heap.SameBut a s.heap h'->o7 prog w h' a (A2 ks k)->Q b { s with heap:=h' }):wpAny (model prog w) A (setAddHashed a (.int k tk) ((intKind prog w).hash k)) Q E s:=by
 obtain⟨o,es,ep,t,ho,hx,hd,oj,hp,hn,hb,hf,hw⟩:=hS;have hlen:es.size=ks.length:=by rw[<- hp.length_eq];simp
 have mE:(intKind prog w).is k (.int k tk)=true:=fj _ _ _ _;have gv:∀(b:Bool) (s1:Shared) (Q':Unit->Shared->Prop),Q' () s1->wpAny (model prog w) A (match b with|true=>rule "set.scan.the-table-gave-way"|false=>pure ()) Q' E s1:=λb s1 Q' q=>by
  cases b
  ·exact ah q
  ·exact eI q
 unfold setAddHashed setAddHashedIn;refine bA (aa (cq ho hd hf ?_));dsimp only;rw[byScan_of rfl hb oj,aJ rfl];unfold setAddByScan;refine aa (aa (eI (aa (wpAny_setScan_of mE ho hd hf oj ?_))));have hm:=o7.mem (a:=a) oj hp k;cases qP:es.toList.findIdx? (λe=>(intKind prog w).is k e.2) with
 |some j =>
  rw[qP] at hm;have hk:k∈ks:=by simpa using hm.symm
  refine ah (ah ?_);have e0:s={ s with heap:=s.heap }:=rfl;rw[e0];refine h s.heap _ (Heap.SameBut.refl a s.heap) ?_;unfold A2;rw[aJ hk];exact⟨o,es,ep,t,ho,hx,hd,oj,hp,hn,hb,hf,hw⟩
 |none =>
  rw[qP] at hm;have hk:k∉ks:=by simpa using hm.symm
  dsimp only;have p1:=layNew_perm t es ((intKind prog w).hash k) (.int k tk);have f1:=layNew_fits t es ((intKind prog w).hash k) (.int k tk);obtain⟨w1,vC⟩:=UH (es:=es) (h:=(intKind prog w).hash k) (x:=.int k tk) hw;generalize layNew t es ((intKind prog w).hash k) (.int k tk)=R1 at p1 f1 w1 vC ⊢;obtain⟨gk,t1,wd,Ic⟩:=R1;dsimp only at p1 f1 w1 vC ⊢;subst vC;rw[Xm] at p1;have Bo:ElemsOf (intKind prog w) gk.toList:=(oj.push mE rfl).perm p1;have Xr:gk.size=es.size+1:=by rw[<- cU,p1.length_eq];simp
  have k1:(gk.toList.map λe=>toI e.2).Perm (A2 ks k):=by
   unfold A2;rw[aB hk];refine(p1.map _).trans ?_;rw[cc];exact hp.append_right _
  have n1:(A2 ks k).Nodup:=by
   unfold A2;rw[aB hk,fU];exact⟨hn,by simp,λx hx y hy=>by simp at hy;subst hy;exact λz=>hk (z▸hx)⟩
  refine aa (gv _ _ _ ?_);have fin:∀ (t2:SetTable),t2.fits gk.size=true->Well (Led w) t2->wpAny (model prog w) A (do
    storeSet a gk t2
    if(!false&&t2.tooFull)=true then do
      (match(relayAll t2 gk (SetTable.grown gk.size)).2.2 with|true=>rule "set.scan.the-table-gave-way"|false=>pure ())
      storeSet a (relayAll t2 gk (SetTable.grown gk.size)).1 (relayAll t2 gk (SetTable.grown gk.size)).2.1
      pure (some true)
     else pure (some true)) (λr s'=>wpAny (model prog w) A (match r with | some added=>pure added | none=>setAddHashedIn a (.int k tk) ((intKind prog w).hash k) 99999) Q E s') E s:=λt2 f2 w2=>by
   have g1:(s.heap.update a (Obj.putSet gk t2)).get? a=some { o with data:=.set gk (ep+1) t2 }:=by
    have:=aT (Obj.putSet gk t2) ho (by rw[Xf gk t2 hd];rfl);rw[Xf gk t2 hd] at this;exact this
   refine aa (wpAny_storeSet_of ho hd ?_ (fits_of_scanBound (by omega)));have As:=bW s.heap a (Obj.putSet gk t2);split
   ·have p2:=relayAll_perm t2 gk (SetTable.grown gk.size);have f3:=relayAll_fits t2 gk (SetTable.grown gk.size);have w3:=Ry (es:=gk) (n:=SetTable.grown gk.size) w2;generalize relayAll t2 gk (SetTable.grown gk.size)=R2 at p2 f3 w3 ⊢;obtain⟨oy,t3,XT⟩:=R2;dsimp only at p2 f3 w3 ⊢;have Xq:oy.size=gk.size:=by rw[<- cU,p2.length_eq,cU]
    refine aa (gv _ _ _ ?_);refine aa (wpAny_storeSet_of g1 rfl ?_ (fits_of_scanBound (by omega)));refine ah (ah (h _ _ (As.trans (bW _ a _)) ?_));have g2:((s.heap.update a (Obj.putSet gk t2)).update a (Obj.putSet oy t3)).get? a=some { o with data:=.set oy (ep+1+1) t3 }:=by
     have:=aT (Obj.putSet oy t3) g1 (by rw[Xf oy t3 rfl];rfl);rw[Xf oy t3 rfl] at this;exact this
    exact⟨_,oy,_,t3,g2,hx,rfl,Bo.perm p2,(p2.map _).trans k1,n1,by omega,f3,w3⟩
   ·exact ah (ah (h _ _ As ⟨_,gk,_,t2,g1,hx,rfl,Bo,k1,n1,by omega,f1 |> λ_=>f2,w2⟩))
  split
  ·refine aa (dJ (hashByValue_scannable 8 rfl) ?_);exact fin _ f1 w1
  ·refine aa (ah ?_);exact fin _ f1 w1
theorem Vg:entryFor table "set.__iter__"=some Builtin.«frozenset.__iter__» :=
 entryFor_alias (id':="frozenset.__iter__") (by kernel_rfl) rfl (by decide +kernel) (by kernel_rfl)
theorem z9:Slot "set_iterator" "__next__" "set_iterator.__next__" :=
 .of (owner:="set_iterator") (n:="__next__") (by rw[fM,dB];kernel_rfl) (by decide +kernel) (by decide +kernel) (by decide +kernel)
  (by first|exact .inl (by decide +kernel)|exact .inr (by decide +kernel)) (by rw[eQ];kernel_rfl)
theorem DU:entryFor table "set_iterator.__next__"=some Builtin.«set_iterator.__next__»:=entryFor_of_tree (by kernel_rfl)
theorem Ed(a:Value):argsOk "set_iterator.__next__" ⟨[a],[]⟩:=by
 unfold argsOk
 kernel_rfl
theorem Eg:Slot "set_iterator" "__iter__" "set_iterator.__iter__" :=
 .of (owner:="set_iterator") (n:="__iter__") (by rw[fM,dB];kernel_rfl) (by decide +kernel) (by decide +kernel) (by decide +kernel)
  (by first|exact .inl (by decide +kernel)|exact .inr (by decide +kernel)) (by rw[eQ];kernel_rfl)
theorem UD:entryFor table "set_iterator.__iter__"=some Builtin.«dict_keyiterator.__iter__» :=
 entryFor_alias (id':="dict_keyiterator.__iter__") (by kernel_rfl) rfl (by decide +kernel) (by kernel_rfl)
theorem Va(a:Value):argsOk "set_iterator.__iter__" ⟨[a],[]⟩:=by
 unfold argsOk
 kernel_rfl
inductive Rd|text|plain|drawn
structure Lies(h:Heap)(a:Addr)(es:Array (Int×Value))(ep:Nat)(t:SetTable):Prop where
 at_:∃o,h.get? a=some o/\o.cls=.type "set"/\o.data=.set es ep t
 fit:t.fits es.size=true
theorem Lies.at(x:Lies h a es ep t)(k:∀o,h.get? a=some o->h'.get? a=some o):Lies h' a es ep t :=
 ⟨let ⟨o,e,r⟩:=x.at_;⟨o,k o e,r⟩,x.fit⟩
def A8(h:Heap)(I a:Addr)(f:Value)(i n ep:Nat):Prop:=∃o,h.get? I=some o/\o.cls=.type "set_iterator"/\o.data=.fields #[f,rawInt i,.ref a,rawInt n,rawInt ep]
theorem A8.at(x:A8 h I a f i n ep)(k:∀o,h.get? I=some o->h'.get? I=some o):A8 h' I a f i n ep:=let ⟨o,e,r⟩:=x;⟨o,k o e,r⟩
theorem A8.ty(x:A8 s.heap I a f i n ep):s.TypeIs (.ref I) "set_iterator":=let ⟨o,e,c,_⟩:=x;⟨o,e,c⟩
def sG(w:World)(a:Addr)(es:Array (Int×Value))(ep:Nat)(pl:List Nat):Rd->List Value
 |.text=>(pickOrder (w.params.setOrder a ep) es).toList.map (·.2)
 |.plain=>es.toList.map (·.2)
 |.drawn=>pl.map λj=>(es.getD j (0,.none)).2
def slotAt(t:SetTable):Nat->Nat
 |0=>0
 |i+1=>t.place.getD i 0+1
def M4(h:Heap)(t:SetTable)(b:Addr)(pl:List Nat)(i:Nat)(f:Value):Rd->Prop
 |.text=>∃k:Nat,f=rawInt k
 |.plain=>f=rawInt (slotAt t i)
 |.drawn=>f=.ref b/\∃o e,h.get? b=some o/\o.cls=.type "tuple"/\o.data=.seq (pl.map λj=>rawInt (j:Nat)).toArray e
def pH(w:World)(es:Array (Int×Value))(t:SetTable)(pl:List Nat):Rd->Prop
 |.text=>w.params.followText "set-order"=true
 |.plain=>w.params.followText "set-order"=false/\(t.plain=true\/es.size<=1)/\Well true t
 |.drawn=>w.params.followText "set-order"=false/\pl.Perm (List.range es.size)
theorem sP{Q:Bool->Shared->Prop}(h:Q (w.params.followText "set-order") s):wpAny (model prog w) A setsByText Q E s:=by
 unfold setsByText;exact aa (nF (ah h))
theorem Dv(hL:Lies s.heap a es ep t)(ht:w.params.followText "set-order"=true){sl g:Nat}{Q:Option (Value×Nat)->Shared->Prop}(h:Q (((pickOrder (w.params.setOrder a ep) es)[g]?).map λe=>(e.2,sl)) s) :
  wpAny (model prog w) A (setNext a sl g ep) Q E s:=by
 obtain⟨o,ho,_,hd⟩:=hL.at_;unfold setNext;refine aa (cq ho hd hL.fit ?_);refine aa (sP ?_);rw[ht,aJ rfl,aB (by simp)];unfold setWalk;refine aa (aa (cq ho hd hL.fit ?_));refine aa (sP ?_);rw[ht,aJ rfl];exact aa (nF (ah (ah h)))
theorem DL(hL:Lies s.heap a es ep t)(ht:w.params.followText "set-order"=false)(hp:t.plain=true\/es.size<=1)(hl:t.led=true){sl g:Nat}{Q:Option (Value×Nat)->Shared->Prop}(h:Q (match es[SetTable.below t.place sl]?,t.place[SetTable.below t.place sl]? with|some (_,x),some j=>some (x,j+1)|_,_=>none) s):wpAny (model prog w) A (setNext a sl g ep) Q E s:=by
 obtain⟨o,ho,_,hd⟩:=hL.at_;unfold setNext;refine aa (cq ho hd hL.fit ?_);refine aa (sP ?_);rw[ht,aB (by decide)];show wpAny _ _ (if(!t.plain&&decide (es.size>1))=true then _ else _) _ _ _;rw[aB (by rcases hp with e|e<;>simp[e])];refine aa (dJ (a:=()) ?_ (ah h));show((if(!t.led&&!es.isEmpty)=true then unsupported "set:maker-not-led" else pure ()):Sem Unit)=pure ();rw[hl]
 rfl
theorem Ug(hL:Lies s.heap a es ep t)(hj:j<es.size)(h:Q (es.getD j (0,.none)).2 s):wpAny (model prog w) A (setNextDrawn a j ep) Q E s:=by
 obtain⟨o,ho,_,hd⟩:=hL.at_;unfold setNextDrawn;refine aa (cq ho hd hL.fit ?_);dsimp only;rw[aB (by simp)];have e:es[j]?=some (es.getD j (0,.none)):=by simp[Array.getD,hj]
 rw[e];exact ah h
theorem CN(hL:Lies s.heap a es ep t):t.place.size=es.size:=by
 have:=hL.fit;unfold SetTable.fits at this;simp at this;exact this.1
theorem DA(hw:ju t.place)(hi:i<=t.place.size):SetTable.below t.place (slotAt t i)=i:=by
 cases i with
 |zero=>exact Tx hw
 |succ i=>exact Tw hw (by omega)
theorem entries{Q:Array (Int×Value)->Shared->Prop}(hL:Lies s.heap a es ep t)(h:Q es s):wpAny (model prog w) A (setEntries a) Q E s:=by
 obtain⟨o,ho,_,hd⟩:=hL.at_;unfold setEntries;exact aa (cq ho hd hL.fit (ah h))
theorem Nx{f':Value}(hi:A8 h I a f i n ep)(hx:x=rawInt ((i:Int)+1)):A8 ((h.update I (Obj.mapFields (·.setIfInBounds 0 f'))).update I (Obj.mapFields (·.setIfInBounds 1 x))) I a f' (i+1) n ep:=by
 obtain⟨o,ho,hc,hd⟩:=hi;have h1:=aT (Obj.mapFields (·.setIfInBounds 0 f')) ho (cQ (bh hd _));have d1:(Obj.mapFields (·.setIfInBounds 0 f') o).data=.fields #[f',rawInt i,.ref a,rawInt n,rawInt ep]:=by rw[bh hd];simp
 have h2:=aT (Obj.mapFields (·.setIfInBounds 1 x)) h1 (cQ (bh d1 _));refine⟨_,h2,(lW ..).trans ((lW ..).trans hc),?_⟩;rw[bh d1];subst hx;simp[rawInt]
theorem Nw(hi:A8 h I a f i n ep)(hx:x=rawInt ((i:Int)+1)):A8 (h.update I (Obj.mapFields (·.setIfInBounds 1 x))) I a f (i+1) n ep:=by
 obtain⟨o,ho,hc,hd⟩:=hi;have h2:=aT (Obj.mapFields (·.setIfInBounds 1 x)) ho (cQ (bh hd _));refine⟨_,h2,(lW ..).trans hc,?_⟩;rw[bh hd];subst hx;simp[rawInt]
theorem BE{f':Value}{m:Sem α}{Q':α->Shared->Prop}(hi:A8 s.heap I a f i n ep)(hx:x=rawInt ((i:Int)+1))(h:∀h',A8 h' I a f' (i+1) n ep->Heap.SameBut I s.heap h'->wpAny (model prog w) A m Q' E { s with heap:=h' }) :
  wpAny (model prog w) A (do setField (.ref I) 0 f';setField (.ref I) 1 x;m) Q' E s:=by
 obtain⟨o,ho,hc,hd⟩:=id hi;refine aa (dh ho hd (by simp) ?_);have h1:=aT (Obj.mapFields (·.setIfInBounds 0 f')) ho (cQ (bh hd _));have d1:(Obj.mapFields (·.setIfInBounds 0 f') o).data=.fields #[f',rawInt i,.ref a,rawInt n,rawInt ep]:=by rw[bh hd];simp
 refine aa (dh (s:={ s with heap:=_ }) h1 d1 (by simp) ?_);exact h _ (Nx hi hx) ((bW ..).trans (bW ..))
theorem Om{m:Sem α}{Q':α->Shared->Prop}(hi:A8 s.heap I a f i n ep)(hx:x=rawInt ((i:Int)+1))(h:∀h',A8 h' I a f (i+1) n ep->Heap.SameBut I s.heap h'->wpAny (model prog w) A m Q' E { s with heap:=h' }) :
  wpAny (model prog w) A (do setField (.ref I) 1 x;m) Q' E s:=by
 obtain⟨o,ho,hc,hd⟩:=id hi;refine aa (dh ho hd (by simp) ?_);exact h _ (Nw hi hx) (bW ..)
theorem yP(next:Nat->Nat)(xs:Array α):(pickOrder next xs).toList.Perm xs.toList:=by
 have go:∀(fuel k:Nat) (left:List α) (out:Array α),fuel=left.length->(pickOrder.go next fuel k left out).toList.Perm (out.toList++left):=by
  intro fuel
  induction fuel with
  |zero =>
   intro k left out e;have:left=[]:=bq e.symm;subst this;simp[pickOrder.go]
  |succ n ih =>
   intro k left out e;have dn:next k % left.length<left.length:=Nat.mod_lt _ (by omega)
   unfold pickOrder.go;rw[aC dn];refine(ih _ _ _ (by rw[lX dn];omega)).trans ?_;rw[Xm,eF];refine List.Perm.append_left _ ?_;have:left.Perm (left[next k % left.length]::left.eraseIdx (next k % left.length)):=by
    rw[jH]
    conv=>lhs;rw[<- tJ (next k % left.length) left,fN dn]
    exact Yi
   exact this.symm
 have:=go xs.size 0 xs.toList #[] (by simp);simpa[pickOrder] using this
theorem next_item{Q:Option Value->Shared->Prop}(hL:Lies s.heap a es ep t)(hr:pH w es t pl r)(hi:A8 s.heap I a f i es.size ep)(hf:M4 s.heap t b pl i f r)(eA:b≠I)(dn:i<es.size)(h:∀v h' f',(sG w a es ep pl r)[i]?=some v->A8 h' I a f' (i+1) es.size ep->M4 h' t b pl (i+1) f' r->Heap.SameBut I s.heap h'->Q (some v) { s with heap:=h' }):wpAny (model prog w) A (pyNext (.ref I)) Q E s:=by
 obtain⟨o,ho,hc,hd⟩:=id hi;unfold pyNext;refine aa (wpAny_attempt (eL (name:=Str.ofString "__next__") hi.ty z9 (bS z9 hi.ty DU ?_ (Ed _))));unfold Builtin.«set_iterator.__next__»;refine aa (ah ?_);refine aa (wpAny_fieldsOf ho hd ?_);dsimp only[rawInt];refine aa (entries hL ?_);rw[aB (by simp)];rw[cO,cO];cases r with
 |text =>
  obtain⟨k,rfl⟩:=hf;dsimp only[rawInt];refine aa (Dv hL hr ?_);have hl:i<(pickOrder (w.params.setOrder a ep) es).size:=by
   have:=(yP (w.params.setOrder a ep) es).length_eq;simp at this;omega
  rw[fO hl];refine BE hi rfl λh' h1 h2=>ah ⟨_,rfl,ah (h _ _ _ ?_ h1 ⟨_,rfl⟩ h2)⟩;show((pickOrder (w.params.setOrder a ep) es).toList.map (·.2))[i]?=_;simp[hl]
 |plain =>
  obtain⟨r1,r2,r3⟩:=hr;have hs:=CN hL;obtain rfl:=hf;dsimp only[rawInt];rw[cO];refine aa (DL hL r1 r2 r3.led ?_);rw[DA r3.tQ (by omega),fO dn,getD_mem (by omega)];refine BE hi rfl λh' h1 h2=>ah ⟨_,rfl,ah (h _ _ _ ?_ h1 rfl h2)⟩;show(es.toList.map (·.2))[i]?=_;simp[dn]
 |drawn =>
  obtain⟨r1,r2⟩:=hr;obtain⟨rfl,ob,e,hb,Bd,tY⟩:=hf;have fK:i<pl.length:=by rw[r2.length_eq];simpa using dn
  dsimp only;refine aa (wpAny_seqItems hb tY ?_);have hj:pl[i]<es.size:=by
   have:=r2.mem_iff.mp (dD fK);simpa using this
  have e1:(pl.map λj=>rawInt (j:Nat)).toArray[i]?=some (rawInt (pl[i]:Nat)):=by simp[fK]
  dsimp only;rw[e1];dsimp only[rawInt];rw[cO];refine aa (Ug hL hj ?_);refine Om hi rfl λh' h1 h2=>ah ⟨_,rfl,ah (h _ _ _ ?_ h1 ⟨rfl,ob,e,by rw[h2.2 b eA];exact hb,Bd,tY⟩ h2)⟩;show(pl.map λj=>(es.getD j (0,.none)).2)[i]?=_;simp[fK]
theorem yQ{Q:Option Value->Shared->Prop}{h0:Heap}(hh:A.handled=none)(HX:Heap.ExtBut I h0 s.heap)(h:∀h',Heap.ExtBut I h0 h'->Q none { s with heap:=h' }) :
  wpAny (model prog w) A.in1 (newExc (.type "StopIteration") [] >>= λe=>(raiseNew e:Sem Fin)) (λfin s'=>∃v,fin=Fin.done (Flow.ret v)/\wpAny (model prog w) A (pure (some v)) Q E s')
   (λe s'=>wpAny (model prog w) A (do
     let x <- isInstance e (Value.type "StopIteration")
     if x=true then pure none else throw e) Q E s') s:=by
 refine aa ?_;simp only[newExc,newTuple];refine aa (bG ?_ (by size_fits));refine aa (m:=firstArgMember _ _) (dJ (a:=Value.none) (by first|rfl|(simp only[firstArgMember];rfl)) ?_);refine bG ?_ (by size_fits);simp only[raiseNew];refine aa (wpAny_handled ?_);rw[show A.in1.handled=none from hh];refine aa (ah (wpAny_throw ?_));refine aa (fh (T:="StopIteration") (b:=true) ⟨_,au _ rfl,rfl⟩ isSubtype_stop ?_);exact ah (h _ ((HX.push _).push _))
theorem next_end{Q:Option Value->Shared->Prop}(hh:A.handled=none)(hL:Lies s.heap a es ep t)(hr:pH w es t pl r)(hi:A8 s.heap I a f es.size es.size ep)(hf:M4 s.heap t b pl es.size f r)(eA:b≠I)(h:∀h',Heap.ExtBut I s.heap h'->Q none { s with heap:=h' }):wpAny (model prog w) A (pyNext (.ref I)) Q E s:=by
 obtain⟨o,ho,hc,hd⟩:=id hi;unfold pyNext;refine aa (wpAny_attempt (eL (name:=Str.ofString "__next__") hi.ty z9 (bS z9 hi.ty DU ?_ (Ed _))));unfold Builtin.«set_iterator.__next__»;refine aa (ah ?_);refine aa (wpAny_fieldsOf ho hd ?_);dsimp only[rawInt];refine aa (entries hL ?_);rw[aB (by simp)];rw[cO,cO];cases r with
 |text =>
  obtain⟨k,rfl⟩:=hf;dsimp only[rawInt];refine aa (Dv hL hr ?_);have hl:(pickOrder (w.params.setOrder a ep) es).size<=es.size:=by
   have:=(yP (w.params.setOrder a ep) es).length_eq;simp at this;omega
  rw[qi hl];refine aa (dh ho hd (by simp) ?_);exact yQ (s:={ s with heap:=_ }) hh (bW ..).extBut h
 |plain =>
  obtain⟨r1,r2,r3⟩:=hr;have hs:=CN hL;obtain rfl:=hf;dsimp only[rawInt];rw[cO];refine aa (DL hL r1 r2 r3.led ?_);rw[DA r3.tQ (by omega),qi (aj _)];refine aa (dh ho hd (by simp) ?_);exact yQ (s:={ s with heap:=_ }) hh (bW ..).extBut h
 |drawn =>
  obtain⟨r1,r2⟩:=hr;obtain⟨rfl,ob,e,hb,Bd,tY⟩:=hf;have fK:pl.length=es.size:=by rw[r2.length_eq];simp
  dsimp only;refine aa (wpAny_seqItems hb tY ?_);have e1:(pl.map λj=>rawInt (j:Nat)).toArray[es.size]?=none:=by simp[fK]
  dsimp only;rw[e1];dsimp only[rawInt];refine aa (dh ho hd (by simp) ?_);have h1:=aT (Obj.mapFields (·.setIfInBounds 0 (Value.int 0 0))) ho (cQ (bh hd _));refine aa (dh (s:={ s with heap:=_ }) h1 (bh hd _) (by simp) ?_);exact yQ (s:={ s with heap:=_ }) hh ((bW ..).trans (bW ..)).extBut h
theorem SU{l:List α}(dn:k<l.length):(l[k]::l.eraseIdx k).Perm l:=by
 rw[jH]
 conv=>rhs;rw[<- tJ k l,fN dn]
 exact Yi.symm
theorem DF{α:Type}:∀(n:Nat) (xs:List α) (s:Shared) (Q:List α->Shared->Prop),n=xs.length->(∀ys d,ys.Perm xs->Q ys { s with drawn:=d })->wpAny (model prog w) A (drawOrder n xs) Q E s
 |0,xs,s,Q,e,h=>by
  have:xs=[]:=bq e.symm;subst this;exact ah (h [] s.drawn (lY _))
 |n+1,[],s,Q,e,h=>by simp at e
 |n+1,x::xs,s,Q,e,h=>by
  unfold drawOrder;refine aa ?_;intro Γ p XD;refine⟨by simp,?_⟩;generalize (model prog w).w.draws .order (s.drawn.get .order)=k;have dn:k % (x::xs).length<(x::xs).length:=Nat.mod_lt _ (by simp);have go:wpAny (model prog w) A (match (x :: xs)[k % (x :: xs).length]? with
   |some y=>do
    let ys <- drawOrder n ((x::xs).eraseIdx (k % (x::xs).length))
    pure (y::ys)
   | none=>unsupported "internal:drawOrder") Q E { s with drawn:=s.drawn.bump .order }:=by
   rw[aC dn];refine aa (DF n _ _ _ (by rw[lX dn];simp at e ⊢;omega) λys d hp=>ah ?_);exact h _ d ((List.Perm.cons _ hp).trans (SU dn))
  exact go
theorem CG(hr:pH w es t pl r):(sG w a es ep pl r).Perm (es.toList.map (·.2)):=by
 cases r with
 |text=>exact(yP _ es).map _
 |plain=>exact lY _
 |drawn =>
  refine(hr.2.map _).trans ?_;have:(List.range es.size).map (λj=>(es.getD j (0,.none)).2)=es.toList.map (·.2):=by
   apply Yl
   ·simp
   ·intro i h1 h2;simp at h1;simp[Array.getD,h1]
  rw[this]
theorem Lies.ty(hL:Lies s.heap a es ep t):s.TypeIs (.ref a) "set":=let ⟨o,e,c,_⟩:=hL.at_;⟨o,e,c⟩
theorem WM(hL:Lies s.heap a es ep t)(hw:Well (Led w) t)(hz:es.size<=10000)(h:∀r pl b f I h' d',pH w es t pl r->A8 h' I a f 0 es.size ep->M4 h' t b pl 0 f r->b≠I->(b=a\/s.heap.objs.size<=b)->(∀c o,s.heap.get? c=some o->h'.get? c=some o)->s.heap.objs.size<=I->s.heap.objs.size<=h'.objs.size->Q (.ref I) { s with heap:=h',drawn:=d' }) :
  wpAny (model prog w) A (pyIter (.ref a)) Q E s:=by
 obtain⟨o,ho,wm,hd⟩:=hL.at_;refine wpAny_pyIter_slot hL.ty F.slot_set_iter (bS F.slot_set_iter hL.ty Vg ?_ (F.args_set_iter_1 _));unfold Builtin.«frozenset.__iter__»;refine aa (ah ?_);unfold Builtin.Frozenset.sizeOf;refine aa (aa (entries hL (ah ?_)));unfold setDrawn;refine aa (aa (cq ho hd hL.fit ?_));refine aa (sP (ah ?_));have dn:=ao ho;have fin:∀(r:Rd) (f:Value) (b:Addr) (pl:List Nat) (h1:Heap) (d1:Drawn),pH w es t pl r->(∀h',(∀c o,h1.get? c=some o->h'.get? c=some o)->M4 h' t b pl 0 f r)->b<h1.objs.size->(b=a\/s.heap.objs.size<=b)->(∀c o,s.heap.get? c=some o->h1.get? c=some o)->s.heap.objs.size<=h1.objs.size ->
   wpAny (model prog w) A.in1 (do
    let e <- setEpoch a
    ret (<- newFields "set_iterator" [f,rawInt 0,.ref a,rawInt es.size,rawInt e])) (λfin s'=>∃ v,fin=Fin.done (Flow.ret v)/\∃ T' r,s'.TypeIs v T'/\typeLookup (.type T') "__next__"=pure (some r)/\Q v s') E { s with heap:=h1,drawn:=d1 }:=λr f b pl h1 d1 hr hf hb HB he hsz=>by
  have lL:Lies h1 a es ep t:=hL.at λo e=>he a o e;obtain⟨o1,He,_,Hw⟩:=lL.at_;unfold setEpoch;refine aa (aa (cq (s:={ s with heap:=h1,drawn:=d1 }) He Hw lL.fit (ah ?_)));refine aa (bG (ah ⟨_,rfl,"set_iterator",_,⟨_,au _ rfl,rfl⟩,z9.lookup,?_⟩));refine h r pl b f h1.objs.size _ d1 hr ⟨_,au _ rfl,rfl,rfl⟩ (hf _ λc o e=>ai _ e) (aI hb) HB (λc o e=>ai _ (he c o e)) hsz (by rw[gi];exact Xj hsz)
 have e0:s={ s with heap:=s.heap,drawn:=s.drawn }:=rfl;cases hT:w.params.followText "set-order" with
 |true =>
  dsimp only[Bool.not_true,Bool.false_and];rw[aB (by simp)];refine aa (ah ?_);rw[e0];exact fin .text (rawInt 0) a [] s.heap s.drawn hT (λh' _=>⟨0,rfl⟩) dn (.inl rfl) (λc o e=>e) (aj _)
 |false =>
  show wpAny _ _ (if(!false&&(!t.plain&&decide (es.size>1)))=true then _ else _ ) _ _ _;by_cases hp:t.plain=true\/es.size<=1
  ·rw[aB (by rcases hp with e|e<;>simp[e])];refine aa (ah ?_);rw[e0];refine fin .plain (rawInt 0) a [] s.heap s.drawn ⟨hT,hp,?_⟩ (λh' _=>rfl) dn (.inl rfl) (λc o e=>e) (aj _);have:Led w=true:=by unfold Led;rw[hT];rfl
   rw[<- this];exact hw
  ·have h1:t.plain=false:=by cases hq:t.plain with|true=>exact absurd (.inl hq) hp|false=>rfl
   have h2:¬es.size<=1:=λz=>hp (.inr z);rw[aJ (by simp[h1];omega)];refine aa (DF _ _ _ _ (Xk).symm λys d hy=>?_);have hl:ys.length=es.size:=by rw[hy.length_eq];simp
   refine aa (bG ?_ (by show(List.map _ ys).toArray.size<=sizeLine;rw[ax,av,hl];exact aL hz (by decide)));refine fin .drawn (.ref s.heap.objs.size) s.heap.objs.size ys _ d ⟨hT,hy⟩ (λh' hk=>⟨rfl,_,_,hk _ _ (au _ rfl),rfl,rfl⟩) (by rw[gi];exact dC _) (.inr (aj _)) (λc o e=>ai _ e) (by rw[gi];exact fS _)
theorem Th(hh:A.handled=none)(hr:pH w es t pl r)(eA:b≠I)(Hg:a≠I) :
  Walks prog w A I [I,a,b] [I] es.size (λi v=>(sG w a es ep pl r)[i]?=some v) (λi h=>Lies h a es ep t/\∃f,A8 h I a f i es.size ep/\M4 h t b pl i f r) where
 sub:=λc hc=>by simp at hc;simp[hc]
 frame:=λi h h' st hk=>by
  obtain⟨hL,f,hi,hf⟩:=st;refine⟨hL.at λo e=>hk a (by simp) o e,f,hi.at λo e=>hk I (by simp) o e,?_⟩;cases r with
  |text=>exact hf
  |plain=>exact hf
  |drawn =>
   obtain⟨e1,o,e,h1,h2⟩:=hf;exact⟨e1,o,e,hk b (by simp) o h1,h2⟩
 item:=λi s Q E hi st hQ=>by
  obtain⟨hL,f,hI,hf⟩:=st;exact next_item hL hr hI hf eA hi λv h' f' hv h1 h2 h3=>hQ v h' s.toks hv ⟨hL.at λo e=>by rw[h3.2 a Hg];exact e,f',h1,h2⟩ λc o hc e=>h3.extBut c o (λz=>hc (by simp[z])) e
 done:=λs Q E st hQ=>by
  obtain⟨hL,f,hI,hf⟩:=st;exact next_end hh hL hr hI hf eA λh' he=>hQ h' s.toks λc o hc e=>he c o (λz=>hc (by simp[z])) e
 self:=λi s Q E st hQ=>by
  obtain⟨hL,f,hI,hf⟩:=st;refine wpAny_pyIter_slot hI.ty Eg (bS Eg hI.ty UD ?_ (Va _));exact aa (ah (ah ⟨_,rfl,"set_iterator",_,hI.ty,z9.lookup,hQ⟩))
theorem Vi:typeLookup (.type "set") "__len__"=pure (some (.builtin "set.__len__")):=by rw[fM,dB];kernel_rfl
theorem UX(hh:A.handled=none)(hL:Lies s.heap a es ep t)(hw:Well (Led w) t)(hz:es.size<=10000){Q:List Value->Shared->Prop}(h:∀(vs:List Value) h' d' iz,vs.Perm (es.toList.map (·.2))->(∀c o,s.heap.get? c=some o->h'.get? c=some o)->s.heap.objs.size<=h'.objs.size->s.toks<=iz->Q vs { s with heap:=h',drawn:=d',toks:=iz }) :
  wpAny (model prog w) A (collect (.ref a)) Q E s:=by
 have dn:a<s.heap.objs.size:=let ⟨o,ho,_⟩:=hL.at_;ao ho
 unfold collect;refine aa (vo (cS F.entry_proto_collect ?_));rw[cB F.plain_proto_collect _];show wpAny _ A.in1 (newList [] >>= λl=>again (.builtin "list.__iadd__" ⟨[l,.ref a],[]⟩)) _ _ s;refine aa (bG ?_);refine ah ⟨fA gO _,cS F.entry_list_iadd ?_⟩;rw[cB gO _];have lL:Lies (s.heap.push { cls:=.type "list",data:=.seq ([]:List Value).toArray }) a es ep t:=hL.at λo e=>ai _ e;have wK:(s.heap.push { cls:=.type "list",data:=.seq ([]:List Value).toArray }).get? s.heap.objs.size=some { cls:=.type "list",data:=.seq ([]:List Value).toArray }:=au _ rfl;have eA:s.heap.objs.size≠a:=bU dn;have h1:Builtin.List.listSameRef (.ref s.heap.objs.size) (.ref a)=false:=by simp[Builtin.List.listSameRef,eA]
 show wpAny _ A.in1 (Builtin.List.listExtendWith (.ref s.heap.objs.size) (.ref a) (.ref s.heap.objs.size)) _ _ _;unfold Builtin.List.listExtendWith;refine aa (cV (Lies.ty (s:={ s with heap:=_ }) lL) ?_);rw[aB (by rw[h1];decide)];refine aa (WM (s:={ s with heap:=_ }) lL hw hz λr pl b f I h2 d2 hr hI hf hb Hz he wN XS=>?_);have mG:Lies h2 a es ep t:=lL.at λo e=>he a o e;have ng:=he _ _ wK;refine aa (bA ?_);unfold Builtin.List.listLengthHint;refine aa (wpAny_specialOf (Lies.ty (s:={ s with heap:=h2,drawn:=d2 }) mG) Vi ?_);generalize rf:("set.__len__":String)=vT;dsimp only;rw[show splitId vT=some ("set","__len__") from by subst rf;decide +kernel];dsimp only;refine aa (fh (b:=true) (Lies.ty (s:={ s with heap:=h2,drawn:=d2 }) mG) (by rw[eQ];kernel_rfl) ?_);rw[aB (by decide)];subst rf;rw[aJ (by decide +kernel)];refine aa (cV (Lies.ty (s:={ s with heap:=h2,drawn:=d2 }) mG) ?_);refine ah ?_;rw[aJ (by decide +kernel)];refine aa (eI ?_);refine aa ?_;show wpAny _ A.in1 (updateSeq s.heap.objs.size (·.push .none) >>= λ_=>updateSeq s.heap.objs.size (·.pop)) _ _ _;refine aa (iT (s:={ s with heap:=h2,drawn:=d2 }) ng rfl ?_);have rA:=aT (Obj.mapSeq (·.push Value.none)) ng rfl;refine iT (s:={ s with heap:=_,drawn:=d2 }) rA rfl ?_;have wJ:=aT (Obj.mapSeq (·.pop)) rA rfl;have qt:∀c o,c≠s.heap.objs.size->h2.get? c=some o->((h2.update s.heap.objs.size (Obj.mapSeq (·.push Value.none))).update s.heap.objs.size (Obj.mapSeq (·.pop))).get? c=some o :=
  λc o hc e=>(bT _ _ (ba hc)).trans ((bT _ _ (ba hc)).trans e)
 have kz:s.heap.objs.size<(s.heap.push { cls:=.type "list",data:=.seq ([]:List Value).toArray }).objs.size:=by rw[gi];exact dC _
 have HH:I≠s.heap.objs.size:=bU (aq kz wN);have XN:b≠s.heap.objs.size:=by
  rcases Hz with z|z
  ·rw[z];exact ba eA
  ·exact bU (aq kz z)
 have W:=(Th (prog:=prog) (w:=w) (A:=A.in1) (a:=a) (b:=b) (I:=I) (es:=es) (ep:=ep) (t:=t) (pl:=pl) hh hr hb (aI (aq (cx dn kz) wN))).toS;have st:Lies h2 a es ep t/\∃f,A8 h2 I a f 0 es.size ep/\M4 h2 t b pl 0 f r:=⟨mG,f,hI,hf⟩
 have jf:=W.frame 0 ({ s with heap:=h2,drawn:=d2 }:Shared) _ s.toks st (aj _) λc hc o e=>qt c o (λz=>by simp at hc;rcases hc with y|y|y<;>simp_all) e;refine ah ⟨fA F.plain_extend_loop _,codeAny_extend_loopS W (aL hz (by decide)) _ (λz=>by simp at z;rcases z with y|y|y<;>simp_all) _ es.size 0 _ _ _ rfl (bY _) jf wJ (ItemsOf.nil _) λs' oU c' hm jQ ir=>?_⟩;show wpAny _ A (load s.heap.objs.size >>= _) _ _ s';refine aa (wpAny_load jQ ?_);refine ah ?_;have eS:s'={ s with heap:=s'.heap,drawn:=d2,toks:=s'.toks }:=by
  obtain⟨fL,g',d',iz,nS⟩:=s';have m1:g'=s.gens:=hm.gens;have m2:d'=d2:=hm.drawn;have m3:nS=s.os:=hm.os;subst m1;subst m2;subst m3
  rfl
 have eo:oU.toList=sG w a es ep pl r:=by
  have l1:(sG w a es ep pl r).length=es.size:=by rw[(CG hr).length_eq];simp
  apply Yl
  ·rw[l1];simpa using ir.1
  ·intro i h1 h2;have:=ir.2 i oU.toList[i] (by simp at h1 ⊢);dsimp only at this;rw[aC h2] at this;exact(aG this).symm
 rw[eo,eS];refine h _ _ d2 s'.toks (CG hr) (λc o e=>?_) (cM (ao jQ)) hm.toks;have hc:c<s.heap.objs.size:=ao e;have n1:c≠s.heap.objs.size:=aI hc;have n2:c≠I:=aI (aq (cx hc kz) wN);exact hm.heap c o (by simp[n1,n2]) (qt c o n1 (he c o (ai _ e)))
theorem Uq(hh:A.handled=none)(hS:o7 prog w s.heap a ks)(wV:ks.length<64)(h:∀(S:Addr) (vs:List Value) (ns:List Int) e h' d' iz,IntsAre vs ns->ns.Perm ks->ns.Pairwise (·<=·)->h'.get? S=some (seqObj "list" vs.toArray e)->s.heap.objs.size<=S->(∀c o,s.heap.get? c=some o->h'.get? c=some o)->s.toks<=iz->Q (.ref S) { s with heap:=h',drawn:=d',toks:=iz }) :
  wpAny (model prog w) A (call (.builtin "sorted") [.ref a]) Q E s:=by
 obtain⟨o,es,ep,t,ho,hx,hd,oj,hp,hn,hb,hf,hw⟩:=hS;have hL:Lies s.heap a es ep t:=⟨⟨o,ho,hx.1,hd⟩,hf⟩
 have hz:es.size=ks.length:=by rw[<- hp.length_eq];simp
 refine gG kind_sorted plain_sorted entry_sorted (args_sorted1 _) ?_;unfold Builtin.«sorted»;refine aa (m:=checkCount "sorted" 1 1 _) (ah ?_);refine aa (UX (A:=A.in1) hh hL hw (by omega) λvs h1 d1 nK hv he kz pk=>?_);have hI:IntsAre vs (vs.map toI):=by
  have all:∀v∈vs,∃tk,v=.int (toI v) tk:=λv vZ=>by
   obtain⟨e,om,rfl⟩:=aF.mp (hv.mem_iff.mp vZ);obtain⟨tk,h1,_⟩:=ET oj om;exact⟨tk,h1⟩
  clear hv
  induction vs with
  |nil=>exact .nil
  |cons v r ih =>
   obtain⟨tk,e⟩:=all v (by simp);have:=IntsAre.cons (toI v) tk (ih λu hu=>all u (by simp[hu]));rw[<- e] at this;exact this
 have hk:(vs.map toI).Perm ks:=by
  refine(hv.map toI).trans ?_;rw[bj];exact hp
 have hl:vs.length<64:=by rw[hv.length_eq];simp;omega
 refine aa (FZ (s:={ s with heap:=h1,drawn:=d1,toks:=nK }) ?_);have ke:(h1.push (seqObj "list" vs.toArray 0)).get? h1.objs.size=some (seqObj "list" vs.toArray 0):=au _ rfl;refine aa (bA (bS (s:={ s with heap:=h1.push (seqObj "list" vs.toArray 0),drawn:=d1,toks:=nK }) slot_list_sort ⟨_,ke,rfl⟩ entry_list_sort (list_sort_tree ke hI hl λout iM a1 a2 a3=>⟨_,rfl,?_⟩) (args_list_sort _)));obtain⟨e,om⟩:=sortedHeap_at (vs:=vs) (out:=out) ke;refine ah ⟨_,rfl,h h1.objs.size out.toList iM e _ d1 nK a1 (a2.trans hk) a3 om kz (λc o' e'=>?_) pk⟩;have hc:=ao (he c o' e');rw[sortedHeap_old (aI hc) (by rw[gi];exact jz hc)];exact ai _ (he c o' e')
def f9(ks xs:List Int):List Int:=xs.foldl A2 ks
theorem F4:∀(xs ks:List Int),(f9 ks xs).length<=ks.length+xs.length
 |[],ks=>by simp[f9]
 |x::xs,ks=>by
  have:=F4 xs (A2 ks x);have h2:=Nb ks x;show(f9 (A2 ks x) xs).length<=_;simp only[List.length_cons];omega
theorem DK:∀(xs ks:List Int) (k:Int),k∈f9 ks xs↔k∈ks\/k∈xs
 |[],ks,k=>by simp[f9]
 |x::xs,ks,k=>by
  show k∈f9 (A2 ks x) xs↔_;rw[DK xs];unfold A2;split
  ·rename_i h;constructor
   ·rintro(a|a)
    ·exact .inl a
    ·exact .inr (by simp[a])
   ·rintro(a|a)
    ·exact .inl a
    ·rcases ay.mp a with rfl|b
     ·exact .inl h
     ·exact .inr b
  ·simp[or_assoc]
theorem TJ:Well (Led w) (SetTable.fresh 0 0 (Led w)):=⟨by simp[ju,SetTable.fresh],rfl,rfl⟩
theorem Df(e:h.get? a=some { cls:=.type "set",dict:=none,data:=.set #[] 0 (.fresh 0 0 (Led w)) }):o7 prog w h a [] :=
 ⟨_,#[],0,_,e,⟨rfl,rfl,rfl⟩,rfl,(by intro e he;simp at he),by simp,by simp,by decide,by rfl,TJ⟩
theorem Xb{R:Result->Shared->Prop}{fp wr:List Addr}{G:Array GenState->Array GenState->Prop}{P:Nat->Value->Prop}{St:Nat->Shared->Prop}(W:WalksS prog w A.in1 I fp wr G n P St)(Bf:a∉fp)(hn:n=ns.length)(hv:∀i v,P i v->∃tk,v=.int (ns.getD i 0) tk)(hb:n+1<scanBound):∀(k i:Nat) (s:Shared),i+k=n->St i s->o7 prog w s.heap a (f9 [] (ns.take i)) ->
   (∀s',Moved (a::wr) G s s'->o7 prog w s'.heap a (f9 [] ns)->R (.ok (.ret .none)) s')->codeAny (model prog w) A (.builtin "set.update.loop" ⟨[.ref a,.ref I],[]⟩) R s:=by
 have hw:a∉wr:=λh=>Bf (W.sub _ h);have qm:∀b∈wr,b∈a::wr:=λb hb=>by simp[hb]
 intro k
 induction k with
 |zero =>
  intro i s e st hS hR;obtain rfl:i=n:=by omega
  refine cS iH ?_;rw[cB dF _];unfold Builtin.«set.update.loop»;refine aa (W.done s _ _ st λs' m=>ah (hR s' (m.mono qm) (o7.at ?_ λo e=>m.heap a o hw e)));rw[hn,cW] at hS;exact hS
 |succ k ih =>
  intro i s e st hS hR;have dn:i<ns.length:=by omega
  refine cS iH ?_;rw[cB dF _];unfold Builtin.«set.update.loop»;refine aa (W.item i s _ _ (by omega) st λv s' hP kc m=>?_);obtain⟨tk,rfl⟩:=hv i v hP;have jQ:=o7.at hS λo e=>m.heap a o hw e;have hl:=F4 (ns.take i) [];rw[cX] at hl;simp only[List.length_nil] at hl;refine aa (bA ?_);unfold setAdd;refine bA (aa ((intKind prog w).pyHash (k:=ns.getD i 0) (fj _ _ _ _) ?_));refine BL (s:={ s' with toks:=s'.toks+1 }) jQ (by omega) λh' bb sb ng=>?_;have e2:A2 (f9 [] (ns.take i)) (ns.getD i 0)=f9 [] (ns.take (i+1)):=by
   unfold f9;rw[dr,Xl,aC dn];simp[List.getD,dn]
  rw[e2] at ng;refine ah ⟨fA dF _,ih (i+1) _ (by omega) (W.frame _ s' _ _ kc (fS _) λb hb o e=>by rw[sb.2 b λz=>Bf (z▸hb)];exact e) ng λs2 m2 h2=>?_⟩;exact hR s2 (Moved.trans W.gtrans ((m.mono qm).then_heap (fS _) λb o hb e=>by rw[sb.2 b λz=>hb (by rw[z];simp)];exact e) m2) h2
noncomputable abbrev u5(w:World):Obj:={ cls:=.type "set",dict:=none,data:=.set #[] 0 (.fresh 0 0 (Led w)) }
theorem Fg(h:Q (.ref s.heap.objs.size) { s with heap:=s.heap.push (u5 w) }):wpAny (model prog w) A (newSet (.type "set")) Q E s:=by
 unfold newSet;refine aa (sP ?_);exact bG h (bY _)
theorem Vx(x:Value)(h:Q (.ref s.heap.objs.size) { s with heap:=s.heap.push (u5 w) }):codeAny (model prog w) A (.call (.builtin "set.__new__") ⟨[.type "set",x],[]⟩) (wants Q E) s:=by
 refine qa (?_:wpAny _ A.in1 (do
  checkBuiltinCall "set.__new__" ⟨[.type "set",x],[]⟩
  again (.builtin "set.__new__" ⟨[.type "set",x],[]⟩)) _ _ s)
 refine aa (dJ (F.newCall_set_1 x) (ah ⟨fA F.plain_set_new _,?_⟩));refine cS F.entry_set_new ?_;rw[cB F.plain_set_new _];unfold Builtin.«set.__new__»;have sub:=sub_set_self;refine aa (m:=Builtin.Frozenset.newClass "set" _) ?_;unfold Builtin.Frozenset.newClass;dsimp only;refine aa (dJ (a:=true) (by first|rfl|(simp[isType];rfl)) ?_);rw[aB (by decide)];refine aa (dJ sub ?_);rw[aB (by decide)];refine ah ?_;exact aa (Fg (ah h))
theorem yI{vs:List Value}(h:IntsAre vs ns):vs.length=ns.length:=by
 induction h with
 |nil=>rfl
 |cons n t r ih=>simp[ih]
def sU(h:Heap)(l:Addr)(items:Array Value):Prop:=h.IsList l items\/h.IsTuple l items
theorem sU.lt(x:sU h l items):l<h.objs.size:=by
 rcases x with⟨_,e,_⟩|⟨_,e,_⟩<;>exact ao e
theorem VM{Q:Fin->Shared->Prop}(hh:A.handled=none)(hS:s.heap.get? a=some (u5 w))(hl:sU s.heap l items)(hi:IntsAre items.toList ns)(hb:items.size+1<scanBound)(eA:a≠l)(h:∀h' tk,o7 prog w h' a (f9 [] ns)->(∀b o,b≠a->s.heap.get? b=some o->h'.get? b=some o)->s.toks<=tk->wpAny (model prog w) A (ret .none) Q E { s with heap:=h',toks:=tk }) :
  wpAny (model prog w) A (Builtin.«set.__init__» ⟨[.ref a,.ref l],[]⟩) Q E s:=by
 have hT:s.TypeIs (.ref a) "set":=⟨_,hS,rfl⟩
 have XO:Lies s.heap a #[] 0 (SetTable.fresh 0 0 (Led w)):=⟨⟨_,hS,rfl,rfl⟩,rfl⟩
 have dn:=hl.lt;have AU:l≠s.heap.objs.size:=aI dn;unfold Builtin.«set.__init__» noKeywords;dsimp only;refine aa (dJ (a:=()) rfl ?_);have nm:∀{Q':String->Shared->Prop},(∀x,Q' x s)->wpAny (model prog w) A (typeNameOfCut 200 (.ref a)) Q' E s:=λ{Q'} q=>by
  unfold typeNameOfCut shownTypeOf;refine aa (aa (cV hT ?_));rw[aB (by decide)];refine ah (dJ (a:="set") ?_ (q _));unfold typeNameCut;dsimp only
  first|(unfold typeName;rw[find?_eq_fast];kernel_rfl)|kernel_rfl
 refine aa (nm λx=>?_);refine aa (m:=checkCount _ 0 1 _) (ah ?_);refine aa (m:=Builtin.Frozenset.addrOf _) (ah ?_);unfold setUsed;refine aa (aa (cq hS rfl rfl (ah ?_)));rw[aB (by show ¬((SetTable.fill (SetTable.fresh 0 0 (Led w)) != 0)=true);unfold SetTable.fill;simp[SetTable.fresh])];unfold Builtin.Frozenset.updateFrom Builtin.Frozenset.isAnySet;obtain⟨c,pA,wI,it,hit,AW,St,W,et⟩:∃c:String,(c="list"\/c="tuple")/\s.TypeIs (.ref l) c/\∃it:Obj,(∀Q':Value->Shared->Prop,Q' (.ref s.heap.objs.size) { s with heap:=s.heap.push it }->wpAny (model prog w) A (pyIter (.ref l)) Q' E s) /\
   (∀b o,s.heap.get? b=some o->(s.heap.push it).get? b=some o)/\∃St:Nat->Shared->Prop,WalksS prog w A.in1 s.heap.objs.size [s.heap.objs.size,l] [s.heap.objs.size] (λa b=>b=a) items.size (λi v=>items[i]?=some v) St/\St 0 { s with heap:=s.heap.push it }:=by
  rcases hl with hl|hl
  ·obtain⟨o,ho,hc,_⟩:=id hl;exact⟨"list",.inl rfl,⟨o,ho,hc⟩,_,λQ' q=>gL hl q,λb o e=>ai _ e,_,(Walks.list (A:=A.in1) hh _ l AU items).toS,⟨⟨_,au _ rfl,rfl,rfl⟩,hl.push _⟩⟩
  ·obtain⟨o,ho,hc,_⟩:=id hl;exact⟨"tuple",.inr rfl,⟨o,ho,hc⟩,_,λQ' q=>wpAny_pyIter_tuple hl q,λb o e=>ai _ e,_,(Walks.tuple (A:=A.in1) hh _ l AU items).toS,⟨⟨_,au _ rfl,rfl,rfl⟩,hl.push _⟩⟩
 refine aa (aa (aa (fh (b:=false) wI (by rcases pA with rfl|rfl<;>(rw[eQ];kernel_rfl)) ?_)));show wpAny (model prog w) A (isInstance (Value.ref l) (Value.type "frozenset")) _ _ _;refine fh (b:=false) wI (by rcases pA with rfl|rfl<;>(rw[eQ];kernel_rfl)) ?_;rw[aB (by decide)];refine aa (cV wI ?_);rw[aB (by rcases pA with rfl|rfl<;>decide)];refine aa (hit _ ?_);refine aa (vo ?_);have HD:a<s.heap.objs.size:=ao hS;have hsz:items.size=ns.length:=by rw[<- cU];exact yI hi
 refine Xb (a:=a) (ns:=ns) W (by simp only[List.mem_cons,List.not_mem_nil,or_false,not_or];exact⟨aI HD,eA⟩) hsz (λi v hv=>IntsAre.int_at hi i v (by rw[eN];exact hv)) hb items.size 0 _ (by omega)
  et (Df (AW _ _ hS)) λs' m jQ=>?_
 have eS:s'={ s with heap:=s'.heap,toks:=s'.toks }:=by
  obtain⟨fL,g',d',iz,nS⟩:=s';have m1:g'=s.gens:=m.gens;have m2:d'=s.drawn:=m.drawn;have m3:nS=s.os:=m.os;subst m1;subst m2;subst m3
  rfl
 rw[eS];refine ah (h _ _ jQ (λb o hb e=>?_) m.toks);exact m.heap b o (by simp only[List.mem_cons,List.not_mem_nil,or_false,not_or];exact⟨hb,aI (ao e)⟩) (AW _ _ e)
theorem Vt(hh:A.handled=none)(hl:sU s.heap l items)(hi:IntsAre items.toList ns)(hb:items.size+1<scanBound)(h:∀h' tk,o7 prog w h' s.heap.objs.size (f9 [] ns)->(∀b o,s.heap.get? b=some o->h'.get? b=some o)->s.toks<=tk->Q (.ref s.heap.objs.size) { s with heap:=h',toks:=tk }) :
  wpAny (model prog w) A (call (.type "set") [.ref l]) Q E s:=by
 have cs:=F.called_set;obtain⟨_,_,y1⟩:=cs.mro;have y2:=cs.made;have y3:=cs.sub;have y4:=cs.notType;have y5:=cs.canCreate;have y6:=F.typeCall_set_1 (.ref l);refine wpAny_call (qa (?_:wpAny _ _ (callAny (.type "set") _) _ _ _));refine ah ⟨Code.quiet_builtin _ (by decide +kernel),cS F.entry_type_call ?_⟩;rw[Around.under_plain (weight_type_call_type "set" [.ref l] []) rfl]
 repeat (any_goals (first|assumption|wp_step))
 refine fV (Vx (.ref l) (E:=E) (Q:=λv s1=>v=.ref s.heap.objs.size/\s1={ s with heap:=s.heap.push (u5 w) }) ⟨rfl,rfl⟩) ?_;rintro(e|fl) s1 hr
 ·exact hr
 cases fl with
 |next=>exact hr
 |brk=>exact hr
 |cont=>exact hr
 |ret v =>
 obtain⟨rfl,rfl⟩:=hr;have hS:(s.heap.push (u5 w)).get? s.heap.objs.size=some (u5 w):=au _ rfl;have hT:Shared.TypeIs { s with heap:=s.heap.push (u5 w) } (.ref s.heap.objs.size) "set":=⟨_,hS,rfl⟩
 have y7:=cs.init.lookup;have y8:=cs.init.bind (.ref s.heap.objs.size)
 repeat (any_goals (first|assumption|wp_step))
 refine fV (codeAny_call_builtin (R:=wants (λv s2=>v=.none/\∃h' tk,s2={ s with heap:=h',toks:=tk }/\o7 prog w h' s.heap.objs.size (f9 [] ns)/\(∀b o,s.heap.get? b=some o->h'.get? b=some o)/\s.toks<=tk) E) cs.init.plain F.entry_set_init (check_set_init_1 hT ?_)) ?_
 ·have Hm:sU (s.heap.push (u5 w)) l items:=hl.imp (·.push _) (·.push _);have Hj:=hl.lt;refine VM (s:={ s with heap:=s.heap.push (u5 w) }) (by simp[hh]) hS Hm hi hb (bU Hj) λh' tk h1 h2 h3=>ah ⟨rfl,h',tk,rfl,h1,λb o e=>h2 b o (aI (ao e)) (ai _ e),h3⟩
 ·rintro(e|fl) s2 hr
  ·exact hr
  cases fl with
  |next=>exact hr
  |brk=>exact hr
  |cont=>exact hr
  |ret v =>
  obtain⟨rfl,h',tk,rfl,h1,h2,h3⟩:=hr
  repeat (any_goals (first|assumption|wp_step))
  exact h _ _ h1 h2 h3
end ST
namespace L2
open PySem PySem.Spec PyProof.Rows
def oS(X:Cx)(a:Addr)(ks:List Int):HO:=.ext λh=>ST.o7 X.prog X.w h a ks
def n9(ns:List Int):List Int:=(ST.f9 [] ns).mergeSort (λa b=>decide (a<=b))
theorem J6:∀{a b:List Int},a.Perm b->a.Pairwise (·<=·)->b.Pairwise (·<=·)->a=b
 |[],b,h,_,_=>by rw[List.nil_perm.mp h]
 |x::a,[],h,_,_=>absurd h.length_eq (by simp)
 |x::a,y::b,h,h1,h2=>by
  rw[cH] at h1 h2;have e:x=y:=by
   have m1:=h.mem_iff (a:=y);have m2:=h.mem_iff (a:=x);simp only[List.mem_cons,true_or,true_iff,iff_true] at m1 m2;rcases m1 with z|z
   ·exact z.symm
   ·rcases m2 with z'|z'
    ·exact z'
    ·have:=h1.1 y z;have:=h2.1 x z';omega
  subst e;rw[J6 (h.cons_inv) h1.2 h2.2]
theorem W8(ns:List Int):(n9 ns).Pairwise (·<=·):=by
 have:=oX (le:=λa b:Int=>decide (a<=b)) (λa b c h1 h2=>by simp at *;omega) (λa b=>by simp;omega) (ST.f9 [] ns);exact this.imp λh=>by simpa using h
theorem K2(ns:List Int):(n9 ns).Perm (ST.f9 [] ns):=Ag _ _
theorem ze(ns:List Int):(n9 ns).length<=ns.length:=by
 rw[(K2 ns).length_eq];have:=ST.F4 ns [];simpa using this
section
variable{X:Cx}{pins:List (Addr×Obj)}{Z:St}{H:Hp}{s:Shared}
theorem Inv.draw(I:Inv X pins Z H s)(d:Drawn):Inv X pins Z H { s with drawn:=d } :=
 I.step (g':=s.gens) (t':=s.toks) (d':=d) (ch:=[]) (by simp) (λb o _ _ _ e _=>e) (λb o _ _ _ e _=>⟨o.slots,e⟩) (λb o _ _ e=>e) (λb o _ e=>⟨o,e⟩) (λ_ _ e=>e) (λ_ _ _ e=>e) (λb ps e=>⟨#[],by simp[e]⟩) (λm hm=>hm) I.bz I.bare
theorem Fw{h:Heap}{a:Addr}{ks:List Int}(x:ST.o7 X.prog X.w h a ks):k6 X.prog X.w H h a (oS X a ks) :=
 ⟨x,by obtain⟨o,_,_,_,e,_⟩:=x;exact⟨o,e⟩,λh1 h2 y k=>y.at k⟩
theorem W6{ns:List Int}{vs:List Value}(h:IntsAre vs ns):Vals (ns.map V.int) vs:=by
 induction h with
 |nil=>exact .nil
 |cons n t r ih=>exact .cons ⟨t,rfl⟩ ih
theorem O8:∀{ns:List Int} {vs:List Value},Vals (ns.map V.int) vs->IntsAre vs ns
 |[],_,h=>by cases h;exact .nil
 |n::ns,_,h=>by
  cases h with
  |cons r rr =>
   obtain⟨t,rfl⟩:=r;exact .cons n t (O8 rr)
theorem Ee(hc:X.calm=true):m5 X (.type "set") (λxs H Q=>∃a ns,xs=[.ref a]/\eW X.K H a (ns.map V.int)/\ns.length<60/\∀p,H p=none->Q (.ref p) (upd H p (oS X p (ST.f9 [] ns)))):=by
 intro pins s Z H xs us Q I r h;obtain⟨a,ns,rfl,hq,hl,q⟩:=h;cases r with
 |cons r rr =>
 cases rr;cases r;obtain⟨aN,rv,p,hz⟩:=I.list hq;have hI:=O8 rv;have hlen:=ST.yI hI;refine ST.Vt (ns:=ns) (I.ok.hd hc) (.inl p.isList) (by simpa using hI) (by rw[ax,hlen];exact aq (Nat.succ_lt_succ hl) (by decide)) λh' tk hS hk _=>?_;exact⟨.ref _,_,I.laid (a:=s.heap.objs.size) (t':=tk) hk (aj _) (Fw hS),rfl,q _ (I.bz.fresh (aj _))⟩
theorem T3(hc:X.calm=true):m5 X (.builtin "sorted") (λxs H Q=>∃a ns,xs=[.ref a]/\H a=some (oS X a (ST.f9 [] ns))/\ns.length<60/\∀p,H p=none->Q (.ref p) (upd H p (.lst ((n9 ns).map V.int)))):=by
 intro pins s Z H xs us Q I r h;obtain⟨a,ns,rfl,ha,hl,q⟩:=h;cases r with
 |cons r rr =>
 cases rr;cases r;have hS:ST.o7 X.prog X.w s.heap a (ST.f9 [] ns):=(I.bz a _ ha).1;have hn:=ST.F4 ns [];simp only[List.length_nil] at hn;refine ST.Uq (I.ok.hd hc) hS (by omega) λS vs iM e h' d' iz h1 h2 h3 h4 h5 h6 _=>?_;have e1:iM=n9 ns:=J6 (h2.trans (K2 ns).symm) h3 (W8 ns);subst e1;have hz:=ze ns;exact⟨.ref S,_,(I.laid (a:=S) (o:=.lst ((n9 ns).map V.int)) (t':=iz) h6 h5 ⟨by rw[av];exact aL hz (aL (cM hl) (by decide)),vs,e,W6 h1,h4⟩).draw d',rfl,q S (I.bz.fresh h5)⟩
end
end L2
namespace ST
open PySem PyProof.Rows
theorem Vs{prog:Program}{w:World}{A:Around}{E:Value->Shared->Prop}{s:Shared}{a:Addr}{ks:List Int}{k:Int}{tk:Tok}{Q:Value->Shared->Prop}(hS:o7 prog w s.heap a ks)(hr:ks.length+1<scanBound)(h:∀h',Heap.SameBut a s.heap h'->o7 prog w h' a (A2 ks k)->Q .none { s with heap:=h',toks:=s.toks+1 }):wpAny (model prog w) A (call (.builtin "set.add") [.ref a,.int k tk]) Q E s:=by
 have hT:s.TypeIs (.ref a) "set":=let ⟨o,_,_,_,e,x,_⟩:=hS;⟨o,e,x.1⟩
 refine bS F.slot_set_add hT F.entry_set_add ?_ (F.args_set_add_2 _ _);have go:∀(Q':Fin->Shared->Prop),(∀h',Heap.SameBut a s.heap h'->o7 prog w h' a (A2 ks k)->wpAny (model prog w) A.in1 (ret .none) Q' E { s with heap:=h',toks:=s.toks+1 })->wpAny (model prog w) A.in1 (do let _ <- setAdd a (.int k tk);ret .none) Q' E s:=λQ' q=>by
  unfold setAdd;refine aa (bA (aa ((intKind prog w).pyHash (k:=k) (fj _ _ _ _) ?_)));exact BL (s:={ s with toks:=s.toks+1 }) hS hr λh' b sb S2=>q h' sb S2
 unfold Builtin.«set.add» Builtin.Frozenset.oneOther;simp only[List.isEmpty_nil,bind_assoc];unfold Builtin.Frozenset.addrOf;refine aa (ah ?_)
 try dsimp only
 refine aa (ah ?_)
 try dsimp only
 exact go _ λh' sb S2=>ah ⟨_,rfl,h h' sb S2⟩
end ST
namespace L2
open PySem PySem.Spec PyProof.Rows
variable{elt iter:Expr}{ifs:List Expr}{scope:Scope}{pos:Pos}
section
variable{prog:Program}{w:World}{A:Around}{R:Result->Shared->Prop}{s:Shared}
theorem Us(elt target iter:Expr)(ifs:List Expr)(scope:Scope)(pos:Pos)(it acc:Value)(env:Env):compTurn (.SetComp elt [⟨target,iter,ifs,0⟩] scope pos) 0 it acc env=(do
      standAt iter.pos
      match <- pyNext it with
      |none=>pure (.done .next)
      |some v =>
        letOwnedTupleGo target it v
        assign target env v
        let mut ok:=true
        for c in ifs do if ok then ok <- isTrue c env (eval c env)
        if ok then(do let x <- eval elt env;standAt elt.pos;let _ <- call (.builtin "set.add") [acc,x])
        again (.compLoop (.SetComp elt [⟨target,iter,ifs,0⟩] scope pos) 0 it acc env)):=by rfl
theorem Rz{target:Expr}{it acc:Value}{env:Env}(I:Nat->Shared->Prop)(turn:∀ n s,I n s->wpAny (model prog w) A (pyNext it) (λr bI=>match r with
   |none=>R (.ok .next) bI
   | some v=>wpAny (model prog w) A (letOwnedTupleGo target it v) (λ_ bI=>wpAny (model prog w) A (assign target env v) (λ_ eZ =>
     wpAny (model prog w) A (forIn ifs true λc r=>if r=true then do let ok <- isTrue c env (eval c env);pure (ForInStep.yield ok) else pure (ForInStep.yield r)) (λok dZ =>
      if ok=true then wpAny (model prog w) A (eval elt env) (λx iJ =>
       wpAny (model prog w) A (call (.builtin "set.add") [acc,x]) (λ_ kK=>∃ m,m < n/\I m kK) (λ_ _=>False) iJ) (λ_ _=>False) dZ
      else ∃ m,m < n/\I m dZ) (λ_ _=>False) eZ) (λ_ _=>False) bI) (λ_ _=>False) bI) (λ_ _=>False) s)(n:Nat)(h:I n s) :
  codeAny (model prog w) A (.compLoop (.SetComp elt [⟨target,iter,ifs,0⟩] scope pos) 0 it acc env) R s:=by
 refine codeAny_loop rfl I (λn s hI=>?_) n h;show wpAny _ A ((compTurn (.SetComp elt [⟨target,iter,ifs,0⟩] scope pos) 0 it acc env).onRaise (λx=>do noteFrame x env;theTreesLotGoes x)) _ _ s;refine wpAny_noted ?_;rw[Us];refine aa (dz (aa (bg (turn n s hI) (λr bI de=>?_) λ_ _ h'=>h'.elim)));cases r with
 |none=>exact ah de
 |some v =>
  refine aa (bg de (λ_ bI de=>?_) λ_ _ h'=>h'.elim);refine aa (bg de (λ_ eZ hU=>aa (bg hU (λok dZ kX=>?_) λ_ _ h'=>h'.elim)) λ_ _ h'=>h'.elim);cases ok with
  |false=>exact wpAny_pure ⟨rfl,kX⟩
  |true =>
   exact aa (aa (bg kX (λx iJ nY=>aa (dz (aa (bg nY (λ_ kK nX=>ah (ah ⟨rfl,nX⟩)) λ_ _ h'=>h'.elim)))) λ_ _ h'=>h'.elim))
theorem Ul{target:Expr}{it acc:Value}{env:Env}(h0:codeAny (model prog w) A (.compLoop (.SetComp elt [⟨target,iter,ifs,0⟩] scope pos) 0 it acc env) R s)(h:wpAny (model prog w) A (pyIter it) (λAJ s'=>codeAny (model prog w) A (.compLoop (.SetComp elt [⟨target,iter,ifs,0⟩] scope pos) 0 AJ acc env) R s') (notedBy (model prog w) A env λx s'=>R (.error x) s') s) :
  codeAny (model prog w) A (.compStart (.SetComp elt [⟨target,iter,ifs,0⟩] scope pos) 0 it acc env) R s:=by
 refine qa (?_:wpAny _ _ ((compStart (.SetComp elt [⟨target,iter,ifs,0⟩] scope pos) 0 it acc env).onRaise (λx=>do noteFrame x env;standAt theWindowsPlace)) _ _ s);refine wpAny_notedAt ?_;unfold compStart;refine aa (nF (wpAny_ite ?_));split
 ·first
   |exact ah ⟨rfl,h0⟩
   |exact aa (ah (ah ⟨rfl,h0⟩))
 ·refine aa (eI ?_);exact aa (dz (aa (bg h (λAJ s' h'=>ah ⟨rfl,h'⟩) λ_ _ x=>x)))
end
def zz(o:Obj):Prop:=∀v,o.data≠.cell v
def Kw(X:Cx)(wi:TI)(d0:List Nat)(n:Nat)(g:TG)(tc:TT)(te:TE):TE:=λZ H Q=>wi Z H λJ H1=>∃W:Nat->Nat->List Int->St->Hp->Prop,(∃m,W 0 m [] (A1 Z d0 n) H1)/\∀i m ys Z H,W i m ys Z H ->
 (J.stop i H/\∀p,H p=none->Q (.ref p) (upd H p (oS X p (ST.f9 [] ys)))) \/
 (J.go i H/\ys.length < 60/\∀ x H',J.nJ i H x H'->g x Z H' λcw H2=>tc cw H2 λb H3 =>
  if b=true then te cw H3 λy H4=>∃ k,y=.int k/\∃ m',m' < m/\W (i + 1) m' (ys ++ [k]) cw H4 else ∃ m',m' < m/\W (i + 1) m' ys cw H3)
section
variable{X:Cx}{pins:List (Addr×Obj)}{Z:St}{H:Hp}{s:Shared}
theorem Inv.Kz{D:Addr}{φ:Heap->Prop}(I:Inv X pins Z H s)(f:A4 X pins H D)(hs:X.cR.heap.objs.size<=D)(ho:k6 X.prog X.w (upd H D (.ext φ)) s.heap D (.ext φ)):Inv X pins Z (upd H D (.ext φ)) s:=by
 obtain⟨f0,f1,f2,f3,f4,f5⟩:=f;have eA:∀b o,X.cR.heap.get? b=some o->b≠D:=λb o e z=>absurd (ao e) (by rw[z];exact ja.mpr hs);have tup:∀b u,H b=some u->upd H D (.ext φ) b=some u:=λb u e=>by rw[f7 (j6 e f0)];exact e
 refine⟨I.ok,I.os,I.bare,⟨?_,?_,?_,I.base.there,?_,?_,?_⟩,I.loc,I.cell,?_,?_,?_,?_,I.len⟩
 ·exact λb o e n1 n2 n3=>I.base.keep b o e n1 n2 n3
 ·exact λb o e n1 n2 n3=>I.base.slot b o e n1 n2 n3
 ·exact λb o e n1 n2=>by rw[f7 (eA b o e)];exact I.base.free b o e n1 n2
 ·exact λb xs e=>tup _ _ (I.base.gI b xs e)
 ·exact λb o u e=>tup _ _ (I.base.gy b o u e)
 ·exact λb ps e=>by
   obtain⟨more,q⟩:=I.base.gJ b ps e;exact⟨more,tup _ _ q⟩
 ·rw[f7 f1.symm];exact I.free
 ·exact λx c e=>by rw[f7 (f4 x c e)];exact I.dH x c e
 ·intro p hp;obtain⟨p1,p2,p3⟩:=I.pin p hp;exact⟨p1,by rw[f7 (f5 p hp)];exact p2,p3⟩
 ·intro a o e;by_cases ha:a=D
  ·subst ha;rw[m6] at e;cases e;exact ho
  ·rw[f7 ha] at e;have q:=I.bz a o e;refine q.T6 (λb u _ h=>h) (λb hb=>tup _ _ hb) (λb xs hb=>tup _ _ hb)
theorem UW{tg:Expr}{N':List Str}{d0:List Nat}{cl:List (Str×Addr)}{it:Addr}{fp:List Addr}{tn:Nat->Heap->Prop}{J:It}{g:TG}{tc:TT}{te:TE}{RR:Value->Addr->Result->Shared->Prop}{E:Value->Shared->Prop}{W:Nat->Nat->List Int->St->Hp->Prop}{m0:Nat}{Q:VK}(S:cZ X scope N' d0 cl)(hc:X.calm=true)(hg:∀C s H,PG (d7 X pins scope N' cl C s H fp) tg g)(ht:∀C s H,jU (d7 X pins scope N' cl C s H fp) ifs tc)(he:∀C s H,PE (d7 X pins scope N' cl C s H fp) elt te)(I:Inv X pins Z H s)(T:Turn X.prog X.w X.K tg J fp it tn)(st:tn 0 s.heap)(hf:∀b∈fp,A4 X pins H b)(w0:W 0 m0 [] (A1 Z d0 N'.length) H)(turn:∀ i m ys Z H,W i m ys Z H->(J.stop i H/\∀ p,H p=none->Q (.ref p) (upd H p (oS X p (ST.f9 [] ys)))) \/
   (J.go i H/\ys.length < 60/\∀ x H',J.nJ i H x H'->g x Z H' λcw H2=>tc cw H2 λb H3 =>
    if b=true then te cw H3 λy H4=>∃ k,y=.int k/\∃ m',m' < m/\W (i + 1) m' (ys ++ [k]) cw H4 else ∃ m',m' < m/\W (i + 1) m' ys cw H3))(wL:∀D C s' H' m,Inv X pins Z H' s'->Q (.ref D) H'->s'.heap.Ns C m->H' C=none->s.heap.objs.size<=C->RR (.ref D) C (.ok .next) s') :
  wpAny (model X.prog X.w) X.A (newSet (.type "set")) (λacc dZ=>wpAny (model X.prog X.w) X.A (newFunctionEnv scope X.env.globals cl [] X.env.qual none .none (some X.env)) (λkl iJ =>
   codeAny (model X.prog X.w) X.A (.compStart (.SetComp elt [⟨tg,iter,ifs,0⟩] scope pos) 0 (.ref it) acc { kl with scope:=relabel scope X.env }) (RR acc kl.locals) iJ) E dZ) E s:=by
 refine ST.Fg (El λde fQ eT ly=>?_);dsimp only at fQ eT ly ⊢;generalize mH:s.heap.push (ST.u5 X.w)=H2 at fQ eT ly ⊢;generalize eD:s.heap.objs.size=D at *;have hC:H2.objs.size=D+1:=by rw[<- mH,dO,eD]
 generalize eC:H2.objs.size=C at *;have rC:D≠C:=by omega
 have lt:∀b o,s.heap.get? b=some o->b<D:=λb o e=>by rw[<- eD];exact ao e
 have nU:D<=C:=by omega
 have mW:∀b o,s.heap.get? b=some o->b≠C:=λb o e=>aI (aq (lt b o e) nU);have kQ:∀b o,s.heap.get? b=some o->b≠D:=λb o e=>aI (lt b o e);have old:∀b o,s.heap.get? b=some o->de.get? b=some o:=λb o e=>eT b o (mH▸ai _ e);have ir:de.get? D=some (ST.u5 X.w):=eT _ _ (by rw[<- mH,<- eD];exact au _ rfl);have hV:∀b∈fp,∃o,s.heap.get? b=some o:=λb hb=>by
  obtain⟨o,e,_⟩:=T.obj _ _ st b hb;exact⟨o,e⟩
 have rB:D∉fp:=λhm=>by
  obtain⟨o,e⟩:=hV D hm;exact kQ D o e rfl
 have X1:Inv (d7 X pins scope N' cl C s H fp) [] (A1 Z d0 N'.length) H { s with heap:=de } :=
  I.DE S hc hf hV (by rw[eD];omega) ⟨_,fQ⟩ old ly
 have qo:tn 0 de:=T.keep _ _ _ st λb _ o e=>old b o e;have xC:∀{H':Hp},(∀b∈fp,H' b=none)->∀b∈fp,A4 (d7 X pins scope N' cl C s H fp) [] H' b:=λhn b hb=>by
  obtain⟨f0,f1,f2,f3,f4,f5⟩:=hf b hb;obtain⟨o,e⟩:=hV b hb;refine⟨hn b hb,?_,?_,.inl hb,λx c q=>(Z3 ly q).elim (λl z=>absurd (cx (z▸l) (aq (lt b o e) nU)) (aZ _)) λq=>f4 x c (S.cin x c q),λp hp=>?_⟩
  ·exact mW b o e
  ·exact λz=>by
    rcases ay.mp (I.J9 b z) with z|z
    ·exact f1 z
    ·exact f2 z
  ·have fL:p∈X.pn++pins:=by simpa[d7] using hp
   exact f5 p fL
 have fD:∀{H':Hp},H' D=none->A4 (d7 X pins scope N' cl C s H fp) [] H' D:=λhn=>by
  refine⟨hn,rC,λz=>?_,.inr (by show s.heap.objs.size<=D;omega),λx c q=>?_,λp hp=>?_⟩
  ·exact absurd (I.sX (a:=D) (by omega)) λkf=>by
    rcases ay.mp (I.J9 D z) with z|z
    ·exact absurd I.lt (by rw[<- z,eD];exact aZ _)
    ·exact kf z
  ·rcases Z3 ly q with l|q
   ·exact λz=>absurd (aq (z▸l) nU) (aZ _)
   ·obtain⟨v,o,e,_⟩:=I.cell x c (S.cin x c q);exact kQ c o e
  ·have fL:p∈X.pn++pins:=by simpa[d7] using hp
   exact kQ _ _ (I.pin p fL).1
 have nR:∀{H':Hp} {s':Shared} {bD:St} {oD:Obj},zz oD->Inv (d7 X pins scope N' cl C s H fp) [] bD H' s'->H' D=none->s'.heap.get? D=some oD ->
   Inv (d7 X pins scope N' cl C s H fp) [(D,oD)] bD H' s':=λ{H' s' bD oD} iB J0 hn e=>J0.J5 λp hp=>by
  have z:p=(D,oD):=by simpa using hp
  subst z;obtain⟨f0,f1,f2,_⟩:=fD hn;exact⟨e,f0,f1,f2,iB⟩
 have ou:∀{H':Hp} {oD:Obj},(∀b∈fp,H' b=none)->∀b∈fp,A4 (d7 X pins scope N' cl C s H fp) [(D,oD)] H' b:=λ{H' oD} hn b hb=>by
  obtain⟨f0,f1,f2,f3,f4,f5⟩:=xC hn b hb;refine⟨f0,f1,f2,f3,f4,λp hp=>?_⟩;have fL:p∈(d7 X pins scope N' cl C s H fp).pn\/p=(D,oD):=by simpa using hp
  rcases fL with z|z
  ·exact f5 p (dw _ z)
  ·subst z;exact λz=>rB (by rw[show D=b from z];exact hb)
 have loop:∀dZ:Shared,dZ={ s with heap:=de } ->
   codeAny (model X.prog X.w) X.A (.compLoop (.SetComp elt [⟨tg,iter,ifs,0⟩] scope pos) 0 (.ref it) (.ref D) (compEnvC scope (I9 scope cl C) C X.env)) (RR (.ref D) C) dZ:=by
  rintro dZ rfl;refine Rz (λn s'=>∃ (i:Nat) (ys:List Int) (bD:St) (H':Hp) (oD:Obj),Inv (d7 X pins scope N' cl C s H fp) [] bD H' s'/\tn i s'.heap/\(∀ b ∈ fp,H' b=none)/\H' D=none/\ys.length <= 60/\zz oD /\
   s'.heap.get? D=some oD/\ST.o7 X.prog X.w s'.heap D (ST.f9 [] ys)/\W i n ys bD H') ?_ m0 ⟨0,[],_,H,ST.u5 X.w,X1,qo,λb hb=>(hf b hb).1,I.bz.fresh (by omega),bY _,(λv (z:Data.set _ _ _=_)=>by cases z),ir,ST.Df ir,w0⟩
  rintro n s3 ⟨i,ys,gH,H3,oD,I3,mT,nt,d3,z3,c3,o3,S3,w3⟩;have tw:=nR c3 I3 d3 o3;rcases turn i n ys gH H3 w3 with⟨stop,q⟩|⟨go,hz,step⟩
  ·refine cb (T.done (d7 X pins scope N' cl C s H fp) rfl rfl rfl rfl i _ s3 _ H3 _ tw (ou nt) mT stop) λr s4 ⟨hr,I4⟩=>?_;subst hr;have o4:=(I4.pin (D,oD) (by simp)).1;have J4:Inv X pins Z H3 s4:=I.FF hf I4;have xD:A4 X pins H3 D:=by
    refine⟨d3,bU (by rw[<- eD];exact I.lt),I.sX (by omega),.inr (by have:=I.sz;omega),λx c q=>?_,λp hp=>?_⟩
    ·obtain⟨v,o,e,_⟩:=I.cell x c q;exact kQ c o e
    ·exact kQ _ _ (I.pin p hp).1
   obtain⟨mC,wq,_⟩:=I4.loc;exact wL D C s4 (upd H3 D (oS X D (ST.f9 [] ys))) mC (J4.Kz xD (by have:=I.sz;omega) (Fw (S3.at λo e=>by rw[o3] at e;cases e;exact o4))) (q D d3) wq (by rw[f7 rC.symm];exact I4.free) (by omega)
  ·refine cb (T.item (d7 X pins scope N' cl C s H fp) rfl rfl rfl rfl i _ s3 _ H3 _ tw (ou nt) mT go) λr s4 ⟨u,hr,h4⟩=>?_;subst hr;refine cb h4 λ_ s5 aV=>?_;obtain⟨x,H5,I5,r5,y5,kM,rS⟩:=aV;have o5:=I5.pin (D,oD) (by simp);have tu:=I5.pinned (ou rS) (T.obj _ _ kM);refine cb (hg C s H _ s5 _ H5 x u _ tu r5 (step x H5 y5)) λ_ s6 aV=>?_;obtain⟨jX,H6,I6,q6⟩:=aV;refine cb (ht C s H _ s6 jX H6 _ I6 q6) λok s7 ⟨H7,I7,q7⟩=>?_;have back:∀{qj:St} {H8:Hp} {s8:Shared},Inv (d7 X pins scope N' cl C s H fp) ([(D,oD)]++U7 fp s5.heap) qj H8 s8->(∀b∈fp,H8 b=none)/\tn (i+1) s8.heap/\H8 D=none/\s8.heap.get? D=some oD :=
    λ{qj H8 s8} I8=>by
     have pf:∀b∈fp,∀o,s5.heap.get? b=some o->s8.heap.get? b=some o/\H8 b=none:=λb hb o e=>by
      have:=I8.pin (b,o) (bf _ (bf _ (O3 hb e)));exact⟨this.1,this.2.1⟩
     have pd:=I8.pin (D,oD) (by simp);refine⟨λb hb=>?_,T.keep _ _ _ kM λb hb o e=>(pf b hb o e).1,pd.2.1,pd.1⟩;obtain⟨o,e,_⟩:=T.obj _ _ kM b hb;exact(pf b hb o e).2
   cases ok with
   |false =>
    obtain⟨m',hm,w7⟩:=q7;obtain⟨b1,b2,b3,b4⟩:=back I7;exact⟨m',hm,i+1,ys,jX,H7,oD,I7.J5 λp hp=>absurd hp (by simp),b2,b1,b3,z3,c3,b4,S3.at λo e=>by rw[o3] at e;cases e;exact b4,w7⟩
   |true =>
    refine cb (he C s H _ s7 jX H7 _ I7 q7) λxv s8 aV=>?_;obtain⟨y,H8,I8,r8,kk,ey,m',hm,w8⟩:=aV;subst ey;obtain⟨tk,rfl⟩:=r8;obtain⟨b1,b2,b3,b4⟩:=back I8;have S8:ST.o7 X.prog X.w s8.heap D (ST.f9 [] ys):=S3.at λo e=>by rw[o3] at e;cases e;exact b4
    have vS:=ST.F4 ys [];simp only[List.length_nil] at vS;refine ST.Vs S8 (aq (by omega:_<62) (by decide)) λh' sb S9=>?_;have e9:ST.A2 (ST.f9 [] ys) kk=ST.f9 [] (ys++[kk]):=by unfold ST.f9;rw[Xl];rfl
    rw[e9] at S9;obtain⟨o9,XZ,Ya,t9,g9,x9,d9,r9⟩:=id S9;have c9:zz o9:=λv z=>by rw[d9] at z;cases z
    have Ab:Inv (d7 X pins scope N' cl C s H fp) [] jX H8 s8:=I8.J5 λp hp=>absurd hp (by simp);obtain⟨f0,f1,f2,f3,f4,f5⟩:=fD (H':=H8) b3;have kp:∀b o,b≠D->s8.heap.get? b=some o->h'.get? b=some o:=λb' u hb hu=>by rw[sb.2 b' hb];exact hu
    refine⟨m',hm,i+1,ys++[kk],jX,H8,o9,Ab.turned (it:=D) (t':=s8.toks+1) kp f0 f1 f3 f4 f5,T.keep _ _ _ b2 λb hb o e=>kp b o (λz=>rB (by rw[<- z];exact hb)) e,b1,b3,?_,c9,g9,S9,w8⟩;rw[bt,gT];omega
 exact Ul (loop _ rfl) (T.self _ 0 _ _ _ qo (loop _ rfl))
theorem Wm{tg:Expr}{N':List Str}{d0:List Nat}{cl:List (Str×Addr)}{wi:TI}{g:TG}{tc:TT}{te:TE}(S:cZ X scope N' d0 cl)(hc:X.calm=true)(hi:PI X tg iter wi)(hg:∀pins C s H fp,PG (d7 X pins scope N' cl C s H fp) tg g)(ht:∀pins C s H fp,jU (d7 X pins scope N' cl C s H fp) ifs tc)(he:∀pins C s H fp,PE (d7 X pins scope N' cl C s H fp) elt te)(hs:∀x,foldedSetIterable iter X.env x=pure x):PE X (.SetComp elt [⟨tg,iter,ifs,0⟩] scope pos) (Kw X wi d0 N'.length g tc te):=by
 intro pins s Z H Q I h;rw[arm_eval_SetComp];refine gR (use:=none) rfl hs S.oG S.kind S.names (cb (hi pins s Z H _ I h) λxv bI de=>cb de λqK eZ hU=>?_);obtain⟨it,fp,tn,J,H2,e,I2,T,jf,f2,W,⟨m0,w0⟩,turn⟩:=hU;subst e;refine UW (RR:=λacc C=>compPost (model X.prog X.w) X.A X.xe none (EP X pins Z Q) acc C) S hc (λC s H=>hg pins C s H fp) (λC s H=>ht pins C s H fp) (λC s H=>he pins C s H fp) I2 T jf f2 w0 turn ?_;intro D C s' H' m I' q hn hC hsz;exact⟨m,hn,λh' sb=>⟨.ref D,H',I'.Ce hsz I2 hC sb,rfl,q⟩⟩
end
end L2
namespace HT
open PySem PyProof.Rows Builtin
theorem RS:fillsNumberSlot (.type "tuple") "mul"=pure false :=
 PySem.fillsNumberSlot_seq (id:="tuple.__mul__") (r:=some (.builtin "tuple.__rmul__")) nG.lookup (by decide +kernel) F.slot_tuple_rmul.lookup (by decide +kernel)
theorem Rn:seqRepeat? (.type "tuple")=pure (some (.builtin "tuple.__mul__")):=by
 unfold seqRepeat?;rw[Yg (T:="tuple") (name:="__mul__") (id:="tuple.__mul__") nG.lookup (by decide +kernel),Yg (T:="tuple") (name:="__rmul__") (id:="tuple.__rmul__") F.slot_tuple_rmul.lookup (by decide +kernel)]
 rfl
theorem RI(a:Int)(t:Tok)(l:Addr)(items:Array Value)(n:Nat)(dd:Option Addr)(sl:Array (Option Value)) :
  Meets (Builtin.«int.__rmul__» ⟨[.int a t,.ref l],[]⟩) (λ_ R s=>s.heap.get? l=some { cls:=.type "tuple",dict:=dd,data:=.seq items n,slots:=sl }/\R (.ok (.ret Value.notImplemented)) s) :=
 .of_wp λprog w A R s h=>by obtain⟨hp,g,d,tk,os⟩:=s;obtain⟨hl,h⟩:=h;wp_walk;exact⟨_,rfl,h⟩
theorem RO(t:Value)(c:Value):Builtin.«tuple.__mul__» ⟨[t,c],[]⟩=(do
 let n <- asIndex c
 if n < -(2 ^ 63)||n>=2 ^ 63 then
  rule "tuple.repeat.overflow";raiseError "OverflowError" s!"cannot fit '{<- typeNameOf c}' into an index-sized integer"
 let xs <- Builtin.Tuple.tupleItemsOf t
 if xs.isEmpty||n==1 then
  if <- Builtin.Tuple.tupleIsExact t then rule "tuple.repeat.same-object";return <- ret t
 if n<=0||xs.isEmpty then return <- ret (<- Builtin.Tuple.tupleExact #[])
 if xs.size*n>(2 ^ 63-1) / 8 then rule "tuple.repeat.no-memory";raiseNew (<- newExc (.type "MemoryError") [])
 if Builtin.Tuple.tupleTooMany (xs.size*n) then unsupported "tuple.__mul__:memory"
 ret (<- Builtin.Tuple.tupleExact ((List.replicate n.toNat xs).foldl (· ++ ·) #[]))):=rfl
section
variable{prog:Program}{w:World}{A:Around}{E:Value->Shared->Prop}{s:Shared}
theorem TH(aN:List Value):∀(m:Nat) (acc:Array Value),List.foldl (λx1 x2=>x1++x2) acc (List.replicate m aN.toArray)=acc++(List.replicate m aN).flatten.toArray:=by
 intro m
 induction m with
 |zero=>intro acc;simp
 |succ m ih=>intro acc;rw[bO,List.foldl_cons,ih,bO,cN];simp
theorem Tp{a:Addr}{aN:List Value}{n:Int}{t:Tok}{Q:Value->Shared->Prop}(ht:IsTup s.heap a aN.toArray)(eA:aN≠[])(h1:1<=n)(h2:n<2 ^ 62)(hz:aN.length*n.toNat<=sizeLine)(q1:n=1->Q (.ref a) s)(q2:Q (.ref s.heap.objs.size) { s with heap:=s.heap.push { cls:=.type "tuple",data:=.seq (List.replicate n.toNat aN).flatten.toArray } }):wpAny (model prog w) A (binaryOp .Mult (.ref a) (.int n t)) Q E s:=by
 obtain⟨o,ho,hc,k,hd⟩:=id ht;obtain⟨cls,dict,data,slots⟩:=o;dsimp only at hc hd;subst hc hd;have he:aN.toArray.isEmpty=false:=by cases aN<;>first|exact absurd rfl eA|rfl
 refine Ae (T:="tuple") (U:="int") (by decide) ht.typeIs (λs'=>kF s' n t) RS F.fills_int_mul iX Rn F.slot_int_index.lookup
  (cL iX (kF s n t) F.entry_int_rmul (F.args_int_rmul_2 _ _) (RI n t a aN.toArray k dict slots) ⟨ho,rfl,ht.typeIs,?_⟩)
 refine bS nG ht.typeIs F.entry_tuple_mul ?_ (F.args_tuple_mul_2 _ _);rw[RO];refine aa (dJ (show asIndex (.int n t)=pure n from rfl) ?_);dsimp only;rw[aB (by simp only[Bool.or_eq_true,decide_eq_true_eq];omega)];refine aa (tupleItemsOf_ ht ?_);have big:¬((aN.toArray.size:Int)*n>(2 ^ 63-1) / 8):=by
  rw[ax];have:((aN.length*n.toNat:Nat):Int)=(aN.length:Int)*n:=by rw[Int.natCast_mul];rw[show((n.toNat:Nat):Int)=n by omega]
  rw[<- this];have hs:sizeLine<2 ^ 59:=by decide
  omega
 have many:¬(Builtin.Tuple.tupleTooMany ((aN.toArray.size:Int)*n)=true):=by
  unfold Builtin.Tuple.tupleTooMany;rw[ax,cu];have:((aN.length*n.toNat:Nat):Int)=(aN.length:Int)*n:=by rw[Int.natCast_mul];rw[show((n.toNat:Nat):Int)=n by omega]
  rw[<- this];omega
 have hsz:sizeOk (.seq (List.replicate n.toNat aN).flatten.toArray):=by
  show(List.replicate n.toNat aN).flatten.toArray.size<=sizeLine;simp only[List.size_toArray,List.length_flatten,List.map_replicate,List.sum_replicate_nat];rw[qb];exact hz
 by_cases e1:n=1
 ·subst e1;rw[aJ (by rw[he];rfl)];unfold Builtin.Tuple.tupleIsExact;refine aa (aa (cV ht.typeIs (ah ?_)));rw[aJ (by decide)]
  first
   |exact aa (eI (aa (ah ⟨_,rfl,ah (q1 rfl)⟩)))
   |exact aa (eI (ah ⟨_,rfl,(q1 rfl)⟩))
   |exact aa (eI (ah ⟨_,rfl,ah (q1 rfl)⟩))
 ·rw[aB (by rw[he];simpa using e1)];rw[aB (by rw[he];simp;omega),aB big,aB many];rw[show List.foldl (λx1 x2=>x1++x2) #[] (List.replicate n.toNat aN.toArray)=(List.replicate n.toNat aN).flatten.toArray by rw[TH];simp]
  first
   |exact aa (m:=Builtin.Tuple.tupleExact _) (bG (ah ⟨_,rfl,q2⟩) hsz)
   |exact aa (m:=Builtin.Tuple.tupleExact _) (bG (ah ⟨_,rfl,ah q2⟩) hsz)
end
end HT
namespace L2
open PySem PySem.Spec PyProof.Rows
section
variable{X:Cx}
def Qu(K:PySem.W.Frag):R2:=λx y H Q=>∃(a:Addr) (n:Int) (xs:List V),x=.ref a/\y=.int n/\gD K H a xs/\xs≠[]/\1<=n/\n<2 ^ 62/\xs.length*n.toNat<=sizeLine /\
 (n=1->Q (.ref a) H)/\(∀p,H p=none->Q (.ref p) (upd H p (.tup (List.replicate n.toNat xs).flatten)))
theorem LP:eP X (binaryOp .Mult) (Qu X.K):=by
 intro pins s Z H x y v u Q I rx ry h;obtain⟨a,n,xs,rfl,rfl,ha,eA,h1,h2,hz,q1,q2⟩:=h;cases rx;obtain⟨tk,rfl⟩:=ry;obtain⟨aN,r,p,_⟩:=I.tuple ha;refine HT.Tp p (λz=>eA (r.P1.mp z)) h1 h2 (by rw[<- r.length];exact hz) (λe=>⟨.ref a,H,I,rfl,q1 e⟩) ?_;refine⟨.ref s.heap.objs.size,_,I.laid (t':=s.toks) (o:=.tup (List.replicate n.toNat xs).flatten) (λb ob q=>ai _ q) (aj _) ?_,rfl,q2 _ (I.bz.fresh (aj _))⟩;exact⟨by rw[len_rep,qb];exact hz,_,r.rep _,L4.new _ _⟩
def Lr(sep:Str)(ys:List Str):Nat:=ys.foldl (λn y=>n+y.length+sep.length) 0
end
end L2
namespace HT
open PySem PyProof.Rows Builtin PySem.SeqAt
theorem RB(l:Addr)(items:Array Value)(n:Nat)(dd:Option Addr)(sl:Array (Option Value))(x:Value)(e:Value->Bool)(j:Nat)(hj:j<items.size)(hit:e items[j]=true)(kf:∀m (hm:m<items.size),m<j->e items[m]=false) :
    Meets (Builtin.«tuple.index» ⟨[.ref l,x],[]⟩)
      (λA R s=>s.heap.get? l=some { cls:=.type "tuple",dict:=dd,data:=.seq items n,slots:=sl }/\(∀y,y∈items->EqAt A.in1 s y x (e y))/\R (.ok (.ret (.int j s.toks))) { s with toks:=s.toks+1 }) :=
  .of_wp λprog w A R s h=>by
    obtain⟨hp,g,d,tk,os⟩:=s;obtain⟨hl,he,h⟩:=h
    wp_walk using wpAny_loadPart' hl
    show wpAny (model prog w) A.in1 (forIn ([:Min.min items.size items.size]:Std.Legacy.Range) ((none,()):Option PySem.Fin × Unit) (λ(i:Nat) __s =>
            match items[i]? with
            |some y=>do
              let __do_lift <- eqBool y x
              if __do_lift=true then do
                  let __do_lift <- retInt (i:Nat)
                  pure (ForInStep.done (some __do_lift,()))
                else pure (ForInStep.yield (none,()))
            | x=>pure (ForInStep.yield (none,())))) _ _ _
    rw[Std.Legacy.Range.forIn_eq_forIn_range'];simp only[Std.Legacy.Range.size,Nat.sub_zero,Nat.add_sub_cancel,Nat.div_one,Nat.min_self];refine wpAny_forIn_list _ (λrest b s'=>b=(none,())/\s'=⟨hp,g,d,tk,os⟩/\∃i,rest=List.range' i (items.size-i)/\i<=j) _ ?_ ?_ _ _ ⟨rfl,rfl,0,by simp,bY _⟩
    · rintro y rest b s' ⟨rfl,rfl,i,hr,hi⟩;have dn:i<items.size:=by omega
      rw[show items.size-i=(items.size-(i+1))+1 by omega,List.range'_succ] at hr;cases hr;rw[show items[y]?=some items[y] from fO dn];refine aa (he _ (Array.getElem_mem dn) prog w _ _ ?_);by_cases hZ:y=j
      · subst hZ;rw[hit]
        wp_walk
        exact⟨_,rfl,h⟩
      · rw[kf y dn (by omega)]
        wp_walk
        exact⟨rfl,rfl,y+1,rfl,by omega⟩
    · rintro b s' ⟨rfl,rfl,i,hr,hi⟩;exfalso;have:=dM List.length hr;simp at this;omega
section
variable{prog:Program}{w:World}{A:Around}{E:Value->Shared->Prop}{s:Shared}
theorem SI:typeLookup (.type "tuple") (dunderI "add")=pure none:=by
 show typeLookup (.type "tuple") "__iadd__"=pure none;rw[fM,dB];kernel_rfl
theorem VJ{t b:Addr}{vs ws:List Value}{Q:Value->Shared->Prop}(ht:IsTup s.heap t vs.toArray)(hb:IsTup s.heap b ws.toArray)(h0:vs=[]->Q (.ref b) s)(h1:ws=[]->Q (.ref t) s)(h2:Q (.ref s.heap.objs.size) { s with heap:=s.heap.push { cls:=.type "tuple",data:=.seq (vs++ws).toArray } })(hsz:vs.length+ws.length<=sizeLine):wpAny (model prog w) A (inplaceOp .Add (.ref t) (.ref b)) Q E s:=by
 obtain⟨⟨cls,dd,data,sl⟩,ho,hc,n,hd⟩:=id ht;obtain⟨⟨sf,nv,data2,jK⟩,jE,lK,n2,hd2⟩:=id hb;simp only at hc hd lK hd2;subst hc hd lK hd2;have e:vs.toArray++ws.toArray=(vs++ws).toArray:=by simp
 refine wpAny_inplaceOp_concat (T:="tuple") ⟨_,ho,rfl⟩ ⟨_,jE,rfl⟩ SI ig ko ?_;by_cases hv:vs=[]
 ·subst hv;exact cL nH ⟨_,ho,rfl⟩ lZ (kH _ _) (tuple_addW0 t b #[] ws.toArray n n2 dd nv sl jK rfl) ⟨ho,jE,h0 rfl⟩
 by_cases hw:ws=[]
 ·exact cL nH ⟨_,ho,rfl⟩ lZ (kH _ _) (tuple_addW1 t b vs.toArray ws.toArray n n2 dd nv sl jK (by simpa using hv) (by simp[hw])) ⟨ho,jE,h1 hw⟩
 ·refine cL nH ⟨_,ho,rfl⟩ lZ (kH _ _) (tuple_addW2 t b vs.toArray ws.toArray n n2 dd nv sl jK (by simpa using hv) (by simpa using hw) (by rw[ax,ax];exact hsz)) ⟨ho,jE,?_⟩;rw[e];exact h2
end
end HT
namespace L2
open PySem PySem.Spec PyProof.Rows
variable{xs:List V}
section
variable{X:Cx}
def uK(ys:List V)(y:V)(n:Nat):Prop:=ys.all K9=true/\K9 y=true/\(∃z,ys[n]?=some z/\lP z y=true)/\∀(m:Nat) z,m<n->ys[m]?=some z->lP z y=false
theorem yF:∀{xs:List V} {us:List Value} {i:Nat} (hi:i<us.length),Vals xs us->∃x,xs[i]?=some x/\RelV x us[i]
 |_,_,0,hi,.cons r _=>⟨_,rfl,r⟩
 |_,_,i+1,hi,.cons _ t=>by
  obtain⟨x,h1,h2⟩:=yF (i:=i) (by simpa using hi) t;exact⟨x,by simpa using h1,by simpa using h2⟩
theorem FQ(h:xs.all K9=true){i:Nat}{x:V}(e:xs[i]?=some x):K9 x=true:=bZ.mp h x (bc e)
theorem Dd{ys:List V}{y:V}{n:Nat}{aN:List Value}(F:uK ys y n)(r:Vals ys aN):∃hn:n<aN.toArray.size,pC y aN.toArray[n]=true/\∀m (hm:m<aN.toArray.size),m<n->pC y aN.toArray[m]=false:=by
 obtain⟨fs,fy,⟨z,hz,he⟩,kf⟩:=F;have hl:=r.length;have hn:n<aN.length:=by
  have:=(az.mp hz).1;omega
 refine⟨by simpa using hn,?_,λm hm Hi=>?_⟩
 ·obtain⟨x,hx,rx⟩:=yF hn r;rw[hz] at hx;cases hx;rw[vt,zE rx (FQ fs hz)];exact he
 ·have lb:m<aN.length:=by simpa using hm
  obtain⟨x,hx,rx⟩:=yF lb r;rw[vt,zE rx (FQ fs hx)];exact kf m x Hi hx
def Ft(K:PySem.W.Frag):V->List V->Hp->VK->Prop:=λx xs H Q=>∃a ys y n,x=.ref a/\xs=[y]/\gD K H a ys/\uK ys y n/\Q (.int n) H
def Fq(K:PySem.W.Frag):V->List V->Hp->VK->Prop:=λx xs H Q=>∃a ys y n,x=.ref a/\xs=[y]/\eW K H a ys/\uK ys y n/\n<2 ^ 62/\Q (.int n) H
theorem SH:jV X "tuple.index" (Ft X.K):=by
 intro pins s Z H x xs v us Q I rx r h;obtain⟨a,ys,y,n,rfl,rfl,hq,W,q⟩:=h;cases rx;cases r with
 |cons ry rr =>
 cases rr;obtain⟨aN,rv,p,hz⟩:=I.tuple hq;obtain⟨hn,hit,kf⟩:=Dd W rv;obtain⟨⟨cls,dd,data,sl⟩,ho,hc,k,hd⟩:=id p;simp only at hc hd;subst hc hd;refine cL F.slot_tuple_index p.typeIs F.entry_tuple_index (F.args_tuple_index_2 _ _) (HT.RB a aN.toArray k dd sl _ (pC y) n hn hit kf) ⟨ho,λw hw=>yN ry W.2.1 rv W.1 w (by simpa using hw),⟨.int n,H,I.tok _,⟨_,rfl⟩,q⟩⟩
theorem SG:jV X "list.index" (Fq X.K):=by
 intro pins s Z H x xs v us Q I rx r h;obtain⟨a,ys,y,n,rfl,rfl,hq,W,mB,q⟩:=h;cases rx;cases r with
 |cons ry rr =>
 cases rr;obtain⟨aN,rv,p,hz⟩:=I.list hq;obtain⟨hn,hit,kf⟩:=Dd W rv;have pt:=p.isList.typeIs;obtain⟨⟨cls,dd,data,sl⟩,k,ho,hc,Bc,hd⟩:=id p;simp only at hc Bc hd;subst hc Bc hd;refine cL F.slot_list_index pt F.entry_list_index (F.args_list_index_2 _ _) (SeqAt.list_indexAt a aN.toArray k none sl _ (pC y) n hn (by omega) hit kf) ⟨ho,λw hw=>yN ry W.2.1 rv W.1 w (by simpa using hw),⟨.int n,H,I.tok _,⟨_,rfl⟩,q⟩⟩
def sV(K:PySem.W.Frag)(H:Hp)(a:Addr)(xs:List V):Prop :=
 H a=some (.tup xs)\/∃(o:Obj) (aN:Array Value) (n:Nat),K.lookup a=some o/\o.cls=.type "tuple"/\o.dict=none/\o.data=.seq aN n/\aN.size<=sizeLine/\Vals xs aN.toList
theorem sV.sq{K:PySem.W.Frag}{H:Hp}{a:Addr}(h:sV K H a xs):gD K H a xs:=by
 rcases h with h|⟨o,aN,n,h1,h2,_,h3,h4,h5⟩
 ·exact .inl (.inl h)
 ·exact .inr ⟨o,aN,n,h1,h2,h3,h4,h5⟩
theorem Inv.OO{pins:List (Addr×Obj)}{Z:St}{H:Hp}{s:Shared}{a:Addr}(I:Inv X pins Z H s)(h:sV X.K H a xs):s.TypeIs (.ref a) "tuple"/\∀b,Value.ref a=.ref b->∃ob,s.heap.get? b=some ob/\ob.dict=none:=by
 rcases h with h|⟨o,aN,n,h1,h2,h3,_⟩
 ·obtain⟨_,aN,_,o,e,c,_,d⟩:=(show k6 X.prog X.w H s.heap a (.tup xs) from I.bz a _ h)
  exact⟨⟨o,e,c⟩,λb q=>by cases q;exact⟨o,e,d⟩⟩
 ·exact⟨⟨o,I.fm a o h1,h2⟩,λb q=>by cases q;exact⟨o,I.fm a o h1,h3⟩⟩
def Kt(K:PySem.W.Frag)(to:TE)(t:TA):TE:=λZ H Q=>to Z H λx H1=>(∃a xs,x=.ref a/\eW K H1 a xs/\t Z H1 λys H2=>Fq K x ys H2 Q)\/(∃a xs,x=.ref a/\sV K H1 a xs/\t Z H1 λys H2=>Ft K x ys H2 Q)
theorem Wj{o e:Expr}{es:List Expr}{to:TE}{t:TA}{apos dy:Pos}(ho:PE X o to)(ha:PA X (e::es) t)(ft:attributeBase o "index" X.env (eval o X.env)=eval o X.env)(jF:((backTo dy (starEach (e :: es) X.env)).all (λx=>!x.1) && (backToKw dy (keywordEach [] X.env)).all (λx=>x.1.isSome)
   && decide ((e :: es).length + ([]:List Keyword).length + (if ([]:List Keyword).isEmpty then 0 else 1) < 30))=true)(fq:(apos.endLine==dy.line)=true)(hs:starEach (e::es) X.env=(false,eval e X.env)::starEach es X.env)(dP:(backTo dy (starEach es X.env)).any (·.1)=false) :
  PE X (.Call (.Attribute o "index" apos) (e::es) [] dy) (Kt X.K to t):=by
 intro pins s Z H Q I h;refine Yd ft jF fq rfl (cb (ho pins s Z H _ I h) λv s1 aV=>?_);obtain⟨x,H1,I1,r1,q1⟩:=aV;rcases q1 with⟨a,xs,rfl,hq,q1⟩|⟨a,xs,rfl,hq,q1⟩
 ·cases r1;obtain⟨aN,rv,pl,hz⟩:=I1.list hq;have pt:=pl.isList.typeIs;obtain⟨ob,k,e1,_,e2,_⟩:=id pl;refine⟨"list","list.index",F.plainAttrs_list,F.slot_list_index,F.type_list_index,pt,λb q=>by cases q;exact⟨ob,e1,e2⟩,?_⟩;have hA:=ha dy pins s1 Z H1 _ I1 q1;rw[hs] at hA ⊢;refine eR (by show(false||(backTo dy (starEach es X.env)).any (·.1))=false;rw[dP]<;>rfl) (fI ?_);exact cb hA λus s2 ⟨vs,H2,I2,r2,q2⟩=>SG pins s2 Z H2 (.ref a) vs (.ref a) us Q I2 rfl r2 q2
 ·cases r1;obtain⟨pt,hd⟩:=I1.OO hq;refine⟨"tuple","tuple.index",F.plainAttrs_tuple,F.slot_tuple_index,F.type_tuple_index,pt,hd,?_⟩;have hA:=ha dy pins s1 Z H1 _ I1 q1;rw[hs] at hA ⊢;refine eR (by show(false||(backTo dy (starEach es X.env)).any (·.1))=false;rw[dP]<;>rfl) (fI ?_);exact cb hA λus s2 ⟨vs,H2,I2,r2,q2⟩=>SH pins s2 Z H2 (.ref a) vs (.ref a) us Q I2 rfl r2 q2
def Qt(K:PySem.W.Frag):V->V->Hp->VK->Prop:=λx y H Q=>(∃i j,x=.int i/\y=.int j/\Q (.int (i+j)) H) \/
 ∃a b xs ys,x=.ref a/\y=.ref b/\gD K H a xs/\gD K H b ys/\xs.length+ys.length<=sizeLine/\(xs=[]->Q (.ref b) H)/\(ys=[]->Q (.ref a) H)/\(∀p,H p=none->Q (.ref p) (upd H p (.tup (xs++ys))))
theorem EY:xV X .Add (Qt X.K):=by
 rintro pins s Z H x y u v Q I rx ry h;rcases h with h|⟨a,b,xs,ys,rfl,rfl,ha,hb,hz,q0,q1,q2⟩
 ·exact IB pins s Z H x y u v Q I rx ry h
 ·cases rx;cases ry;obtain⟨aN,r1,p1,_⟩:=I.tuple ha;obtain⟨kW,r2,p2,_⟩:=I.tuple hb;refine HT.VJ p1 p2 (λz=>⟨.ref b,H,I,rfl,q0 (r1.P1.mp z)⟩) (λz=>⟨.ref a,H,I,rfl,q1 (r2.P1.mp z)⟩) ?_ (by rw[<- r1.length,<- r2.length];exact hz);refine⟨.ref s.heap.objs.size,_,I.laid (t':=s.toks) (o:=.tup (xs++ys)) (λb ob q=>ai _ q) (aj _) ?_,rfl,q2 _ (I.bz.fresh (aj _))⟩;exact⟨by rw[bt];exact hz,_,r1.append r2,L4.new _ _⟩
end
end L2
namespace ST
open PySem PyProof.Rows
def Spot(k:Int):Prop:=0<=k/\k<8
structure Own(mask:Nat)(owner:Array (Option Nat))(pre:List Int):Prop where
 sz:owner.size=mask+1
 fwd:∀(i:Nat) (k:Int),pre[i]?=some k->owner[k.toNat]?=some (some i)
 bwd:∀(j i:Nat),owner[j]?=some (some i)->pre[i]?=some (j:Int)
section
variable{prog:Program}{w:World}{a:Addr}
def Nc(prog:Program)(w:World)(h:Heap)(a:Addr)(ks:List Int):Prop :=
 ∃o es ep t,h.get? a=some o/\o.ExactSet/\o.data=.set es ep t/\ElemsOf (intKind prog w) es.toList/\(es.toList.map λe=>toI e.2).Perm ks/\ks.Nodup/\es.size<scanBound/\t.fits es.size=true/\Well (Led w) t/\(ks=[]->7<=t.mask)
theorem o7.toV{h:Heap}{ks:List Int}(x:o7 prog w h a ks)(hn:ks≠[]):Nc prog w h a ks:=by
 obtain⟨o,es,ep,t,h1,h2,h3,h4,h5,h6,h7,h8,h9⟩:=x;exact⟨o,es,ep,t,h1,h2,h3,h4,h5,h6,h7,h8,h9,λz=>absurd z hn⟩
theorem o7.same{h:Heap}{ks us:List Int}(x:o7 prog w h a ks)(hp:ks.Perm us):o7 prog w h a us:=by
 obtain⟨o,es,ep,t,h1,h2,h3,h4,h5,h6,h7⟩:=x;exact⟨o,es,ep,t,h1,h2,h3,h4,h5.trans hp,hp.nodup_iff.mp h6,h7⟩
theorem above:∀n,n<300->7<SetTable.sizeAbove n/\n<SetTable.sizeAbove n/\SetTable.sizeAbove n<=sizeLine:=by decide +kernel
end
end ST
namespace L2
open PySem PySem.Spec PyProof.Rows
variable{X:Cx}
end L2
namespace ST
open PySem PyProof.Rows
theorem Rt:typeLookup (.type "dict") "__len__"=pure (some (.builtin "dict.__len__")):=by rw[fM,dB];kernel_rfl
section
variable{prog:Program}{w:World}{A:Around}{E:Value->Shared->Prop}{s:Shared}{a:Addr}{ep:Nat}{K:Type}[DecidableEq K]{knd:PySem.KeyKind prog w K}{kvs:List (K×Value)}
theorem Vf(hh:A.handled=none)(hd:(a==sysModules)=false)(hm:s.heap.DictAt knd a kvs ep)(hz:kvs.length<=10000){Q:List Value->Shared->Prop}(h:∀(vs:List Value) h' iz,vs.length=kvs.length->(∀(i:Nat) v,vs[i]?=some v->∃k x,kvs[i]?=some (k,x)/\knd.is k v=true)->(∀c o,s.heap.get? c=some o->h'.get? c=some o)->s.heap.objs.size<=h'.objs.size->s.toks<=iz->Q vs { s with heap:=h',toks:=iz }) :
  wpAny (model prog w) A (collect (.ref a)) Q E s:=by
 have dn:a<s.heap.objs.size:=hm.lt_size;unfold collect;refine aa (vo (cS F.entry_proto_collect ?_));rw[cB F.plain_proto_collect _];show wpAny _ A.in1 (newList [] >>= λl=>again (.builtin "list.__iadd__" ⟨[l,.ref a],[]⟩)) _ _ s;refine aa (bG ?_);refine ah ⟨fA gO _,cS F.entry_list_iadd ?_⟩;rw[cB gO _];have lL:=hm.push { cls:=.type "list",data:=.seq ([]:List Value).toArray };have wK:(s.heap.push { cls:=.type "list",data:=.seq ([]:List Value).toArray }).get? s.heap.objs.size=some { cls:=.type "list",data:=.seq ([]:List Value).toArray }:=au _ rfl;have eA:s.heap.objs.size≠a:=bU dn;have h1:Builtin.List.listSameRef (.ref s.heap.objs.size) (.ref a)=false:=by simp[Builtin.List.listSameRef,eA]
 show wpAny _ A.in1 (Builtin.List.listExtendWith (.ref s.heap.objs.size) (.ref a) (.ref s.heap.objs.size)) _ _ _;unfold Builtin.List.listExtendWith;refine aa (cV (s:={ s with heap:=_ }) lL.dictOf.typeIs ?_);rw[aB (by rw[h1];decide)];refine aa (wpAny_pyIter_dict (s:={ s with heap:=_ }) hd lL ?_);have kz:s.heap.objs.size<(s.heap.push { cls:=.type "list",data:=.seq ([]:List Value).toArray }).objs.size:=by rw[gi];exact dC _
 have HK:((s.heap.push { cls:=.type "list",data:=.seq ([]:List Value).toArray }).push { cls:=.type "dict_keyiterator",data:=.fields #[.ref a,.int 0 0,.int kvs.length 0,.int ep 0] }).IsKeyIter (s.heap.push { cls:=.type "list",data:=.seq ([]:List Value).toArray }).objs.size a 0 kvs.length ep:=⟨_,au _ rfl,rfl,rfl⟩
 have mG:=lL.push { cls:=.type "dict_keyiterator",data:=.fields #[.ref a,.int 0 0,.int kvs.length 0,.int ep 0] };have he:∀c o,(s.heap.push { cls:=.type "list",data:=.seq ([]:List Value).toArray }).get? c=some o->((s.heap.push { cls:=.type "list",data:=.seq ([]:List Value).toArray }).push { cls:=.type "dict_keyiterator",data:=.fields #[.ref a,.int 0 0,.int kvs.length 0,.int ep 0] }).get? c=some o:=λc o e=>ai _ e;have ng:=he _ _ wK;generalize ((s.heap.push { cls:=.type "list",data:=.seq ([]:List Value).toArray }).push { cls:=.type "dict_keyiterator",data:=.fields #[.ref a,.int 0 0,.int kvs.length 0,.int ep 0] })=h2 at *;generalize XQ:(s.heap.push { cls:=.type "list",data:=.seq ([]:List Value).toArray }).objs.size=I at *;refine aa (bA ?_);unfold Builtin.List.listLengthHint;refine aa (wpAny_specialOf (s:={ s with heap:=h2 }) mG.dictOf.typeIs Rt ?_);generalize rf:("dict.__len__":String)=vT;dsimp only;rw[show splitId vT=some ("dict","__len__") from by subst rf;decide +kernel];dsimp only;refine aa (fh (s:={ s with heap:=h2 }) (b:=true) mG.dictOf.typeIs (by rw[eQ];kernel_rfl) ?_);rw[aB (by decide)];subst rf;rw[aJ (by decide +kernel)];refine aa (cV (s:={ s with heap:=h2 }) mG.dictOf.typeIs ?_);refine ah ?_;rw[aJ (by decide +kernel)];refine aa (eI ?_);refine aa ?_;show wpAny _ A.in1 (updateSeq s.heap.objs.size (·.push .none) >>= λ_=>updateSeq s.heap.objs.size (·.pop)) _ _ _;refine aa (iT (s:={ s with heap:=h2 }) ng rfl ?_);have rA:=aT (Obj.mapSeq (·.push Value.none)) ng rfl;refine iT (s:={ s with heap:=_ }) rA rfl ?_;have wJ:=aT (Obj.mapSeq (·.pop)) rA rfl;have qt:∀c o,c≠s.heap.objs.size->h2.get? c=some o->((h2.update s.heap.objs.size (Obj.mapSeq (·.push Value.none))).update s.heap.objs.size (Obj.mapSeq (·.pop))).get? c=some o :=
  λc o hc e=>(bT _ _ (ba hc)).trans ((bT _ _ (ba hc)).trans e)
 have HH:I≠s.heap.objs.size:=bU kz;have HE:a≠I:=aI (cx dn kz);have W:=(Walks.dictKeys (prog:=prog) (w:=w) (A:=A.in1) (knd:=knd) hh I a HE kvs ep).toS;have st:h2.IsKeyIter I a 0 kvs.length ep/\h2.DictAt knd a kvs ep:=⟨HK,mG⟩
 have jf:=W.frame 0 ({ s with heap:=h2 }:Shared) _ s.toks st (aj _) λc hc o e=>qt c o (λz=>by simp at hc;rcases hc with y|y<;>simp_all) e;refine ah ⟨fA F.plain_extend_loop _,codeAny_extend_loopS W (aL hz (by decide)) _ (λz=>by simp at z;rcases z with y|y<;>simp_all) _ kvs.length 0 _ _ _ rfl (bY _) jf wJ (ItemsOf.nil _) λs' oU c' hm jQ ir=>?_⟩;show wpAny _ A (load s.heap.objs.size >>= _) _ _ s';refine aa (wpAny_load jQ ?_);refine ah ?_;have eS:s'={ s with heap:=s'.heap,toks:=s'.toks }:=by
  obtain⟨fL,g',d',iz,nS⟩:=s';have m1:g'=s.gens:=hm.gens;have m2:d'=s.drawn:=hm.drawn;have m3:nS=s.os:=hm.os;subst m1;subst m2;subst m3
  rfl
 rw[eS];refine h _ _ s'.toks (by simpa using ir.1) (λi v hv=>ir.2 i v (by simpa using hv)) (λc o e=>?_) (cM (ao jQ)) hm.toks;have hc:c<s.heap.objs.size:=ao e;have n1:c≠s.heap.objs.size:=aI hc;have n2:c≠I:=aI (cx hc kz);exact hm.heap c o (by simp[n1,n2]) (qt c o n1 (he c o (ai _ e)))
theorem Ls{i:Int}{v:Value}(h:(L2.l9 prog w).is (.inl i) v=true):∃t,v=.int i t:=by
 rw[L2.Ud] at h;rcases L2.m9 h with⟨j,t,e1,e2⟩|⟨x,t,e1,_⟩
 ·cases e1;exact⟨t,e2⟩
 ·cases e1
theorem UY{kvs:List (L2.Key×Value)}{ns:List Int}(hh:A.handled=none)(hd:(a==sysModules)=false)(hm:s.heap.DictAt (L2.l9 prog w) a kvs ep)(hk:kvs.map (·.1)=ns.map Sum.inl)(wV:ns.length<64){Q:Value->Shared->Prop}(h:∀(S:Addr) (vs:List Value) (iM:List Int) e h' iz,IntsAre vs iM->iM.Perm ns->iM.Pairwise (·<=·)->h'.get? S=some (seqObj "list" vs.toArray e)->s.heap.objs.size<=S->(∀c o,s.heap.get? c=some o->h'.get? c=some o)->s.toks<=iz->Q (.ref S) { s with heap:=h',toks:=iz }) :
  wpAny (model prog w) A (call (.builtin "sorted") [.ref a]) Q E s:=by
 have hl:kvs.length=ns.length:=by simpa using dM List.length hk
 refine gG kind_sorted plain_sorted entry_sorted (args_sorted1 _) ?_;unfold Builtin.«sorted»;refine aa (m:=checkCount "sorted" 1 1 _) (ah ?_);refine aa (Vf (A:=A.in1) hh hd hm (by omega) λvs h1 nK AQ hv he kz pk=>?_);have hI:IntsAre vs ns:=by
  have all:∀(i:Nat) v,vs[i]?=some v->∃n tk,ns[i]?=some n/\v=.int n tk:=λi v e=>by
   obtain⟨k,x,h1,h2⟩:=hv i v e;have h3:(kvs.map (·.1))[i]?=some k:=by rw[aA,h1];rfl
   rw[hk,aA,ae] at h3;obtain⟨n,h4,rfl⟩:=h3;obtain⟨tk,e⟩:=Ls h2;exact⟨n,tk,h4,e⟩
  have wu:vs.length=ns.length:=AQ.trans hl;clear hv AQ hl hk h
  induction vs generalizing ns with
  |nil =>
   cases ns with
   |nil=>exact .nil
   |cons=>simp at wu
  |cons v r ih =>
   cases ns with
   |nil=>simp at wu
   |cons n ns =>
    obtain⟨n',tk,e1,e2⟩:=all 0 v rfl;cases e1;rw[e2];exact .cons n tk (ih (by simp at wV;omega) (λi v e=>all (i+1) v e) (by simpa using wu))
 have pv:vs.length<64:=by omega
 refine aa (FZ (s:={ s with heap:=h1,toks:=nK }) ?_);have ke:(h1.push (seqObj "list" vs.toArray 0)).get? h1.objs.size=some (seqObj "list" vs.toArray 0):=au _ rfl;refine aa (bA (bS (s:={ s with heap:=h1.push (seqObj "list" vs.toArray 0),toks:=nK }) slot_list_sort ⟨_,ke,rfl⟩ entry_list_sort (list_sort_tree ke hI pv λout iM a1 a2 a3=>⟨_,rfl,?_⟩) (args_list_sort _)));obtain⟨e,om⟩:=sortedHeap_at (vs:=vs) (out:=out) ke;refine ah ⟨_,rfl,h h1.objs.size out.toList iM e _ nK a1 a2 a3 om kz (λc o' e'=>?_) pk⟩;have hc:=ao (he c o' e');rw[sortedHeap_old (aI hc) (by rw[gi];exact jz hc)];exact ai _ (he c o' e')
end
end ST
namespace L2
open PySem PySem.Spec PyProof.Rows
variable{X:Cx}
theorem R8:∀{ns ks:List Int},(ks++ns).Nodup->ST.f9 ks ns=ks++ns
 |[],ks,_=>by simp[ST.f9]
 |n::r,ks,h=>by
  have hn:n∉ks:=λz=>by
   have:=(fU.mp h).2.2 n z n (by simp);exact this rfl
  have e:ST.A2 ks n=ks++[n]:=by
   unfold ST.A2;rw[aB (by simpa using hn)]
  show ST.f9 (ST.A2 ks n) r=_;rw[e,R8 (by rw[eF];exact h),eF]
  rfl
theorem RQ(hc:X.calm=true):m5 X (.builtin "sorted") (λxs H Q=>∃a kvs ns,xs=[.ref a]/\H a=some (.dK kvs)/\kvs.map (·.1)=ns.map Sum.inl/\ns.length<60/\∀p,H p=none->Q (.ref p) (upd H p (.lst ((n9 ns).map V.int)))):=by
 intro pins s Z H xs us Q I r h;obtain⟨a,kvs,ns,rfl,ha,hk,hl,q⟩:=h;cases r with
 |cons r rr =>
 cases rr;cases r;obtain⟨_,hd,vs,kv,hD⟩:=uj I.bz ha;obtain⟨ep,hA⟩:=hD.dictAt;have AX:vs.map (·.1)=ns.map Sum.inl:=kv.keys.symm.trans hk;have Hf:ns.Nodup:=by
  obtain⟨_,_,_,_,_,_,_,_,nd⟩:=id hD;rw[AX] at nd;exact(eE.mp nd).imp λh e=>h (dM _ e)
 refine ST.UY (I.ok.hd hc) hd hA AX (by omega) λS us iM e h' iz h1 h2 h3 h4 h5 h6 _=>?_;have e1:iM=n9 ns:=J6 (h2.trans ((K2 ns).trans (by rw[R8 (ks:=[]) Hf];exact .refl _)).symm) h3 (W8 ns);subst e1;have hz:=ze ns;exact⟨.ref S,_,(I.laid (a:=S) (o:=.lst ((n9 ns).map V.int)) (t':=iz) h6 h5 ⟨by rw[av];exact aL hz (aL (cM hl) (by decide)),us,e,W6 h1,h4⟩),rfl,q S (I.bz.fresh h5)⟩
theorem UG{aN:List Value}{ns:List Int}(hi:IntsAre aN ns):∃xs,aN.toArray=intItems xs/\ns=xs.toList.map (·.1):=by
 obtain⟨xs,e⟩:=hi.allInts.items;exact⟨xs,e,by rw[<- hi.numsOf,<- nums_intItems,<- e]⟩
theorem Se(hc:X.calm=true):m5 X (.builtin "sum") (λxs H Q=>∃a,∃ns:List Int,xs=[.ref a]/\eW X.K H a (ns.map V.int)/\Q (.int ns.sum) H):=by
 intro pins s Z H xs us Q I r h;obtain⟨a,ns,rfl,ha,q⟩:=h;obtain⟨u,rfl,ru⟩:=vals1 r;cases ru;obtain⟨aN,rv,p,hz⟩:=I.list ha;obtain⟨xs,e,en⟩:=UG (O8 rv);refine sum_intListG (xs:=xs) (I.ok.hd hc) (by rw[<- e];exact p.isList) λh' tk t' k=>⟨.int ns.sum,H,I.kept k,⟨t',?_⟩,q⟩
 rw[preSum_eq,List.take_of_length_le (by simp),en]
theorem Sb(hc:X.calm=true):m5 X (.builtin "all") (λxs H Q=>∃(a:Addr) (ns:List Int),xs=[.ref a]/\eW X.K H a (ns.map V.int)/\Q (.bl (ns.all λn=>n != 0)) H):=by
 intro pins s Z H xs us Q I r h;obtain⟨a,ns,rfl,ha,q⟩:=h;obtain⟨u,rfl,ru⟩:=vals1 r;cases ru;obtain⟨aN,rv,p,hz⟩:=I.list ha;refine call_all_walk ?_;refine gL p.isList ?_;have eA:a≠s.heap.objs.size:=by
  obtain⟨o,e,_⟩:=id p.isList;exact aI (ao e)
 have hl:=rv.length;rw[av] at hl;refine⟨s.heap.objs.size,_,_,_,_,_,λi=>ns.getD i 1 != 0,rfl,Walks.list (A:=X.A.in1) (I.ok.hd hc) _ a eA aN.toArray,⟨⟨_,au _ rfl,rfl,rfl⟩,?_⟩,?_,λh' tk k=>?_⟩
 ·obtain⟨o,e,q1⟩:=id p.isList;exact⟨o,ai _ e,q1⟩
 ·intro i v s' Q' E' hP hQ;have hv:aN[i]?=some v:=by simpa using hP
  have hi:i<ns.length:=by rw[hl];exact(az.mp hv).1
  obtain⟨u',qL,vJ⟩:=rv.get (i:=i) (x:=V.int ns[i]) (by rw[aA,aC hi];rfl);rw[hv] at qL;cases qL;obtain⟨t,rfl⟩:=vJ;refine truthy_int ?_;have:ns.getD i 1=ns[i]:=by simp[List.getD,hi]
  dsimp only at hQ;rw[this] at hQ;exact hQ
 ·have e1:(List.range aN.toArray.size).all (λi=>ns.getD i 1 != 0)=ns.all λn=>n != 0:=by
   rw[ax,<- hl];rw[bL];simp only[List.all_eq_true,List.mem_range];constructor
   ·intro hh x hx;obtain⟨i,hi,rfl⟩:=du.mp hx;have:=hh i hi;simpa[List.getD,hi] using this
   ·intro hh i hi;have:=hh ns[i] (dD hi);simpa[List.getD,hi] using this
  rw[e1];exact ⟨.bl _,H,I.kept (t':=tk) λb o e=>k b o (by
   intro hb;have:b=s.heap.objs.size:=by simpa using hb
   exact absurd (ao e) (by rw [this];exact aZ _)) (ai _ e),rfl,q⟩
theorem Rp:m5 X (.builtin "len") (λxs H Q=>∃a,∃ks:List Int,xs=[.ref a]/\H a=some (oS X a ks)/\Q (.int ks.length) H):=by
 intro pins s Z H xs us Q I r h;obtain⟨a,ks,rfl,ha,q⟩:=h;obtain⟨u,rfl,ru⟩:=vals1 r;cases ru;have hS:ST.o7 X.prog X.w s.heap a ks:=(I.bz a _ ha).1;obtain⟨o,es,ep,t,e,ex,ed,_,hp,nd,hz,hf,_⟩:=hS;have hl:es.size=ks.length:=by have:=hp.length_eq;simpa using this
 refine call_len_set e ex ed hf (by have:scanBound<2 ^ 62:=(by decide);omega) ⟨.int ks.length,H,I.tok _,⟨_,by rw[hl]⟩,q⟩
theorem Mb{i:Int}{j:Nat}{p pos:Pos}(lx:PySem.W.kdsCode X.K X.env.code=true):PE X (.Set [.Constant (.int i) j p] 0 pos) (λZ H Q=>∀q,H q=none->Q (.ref q) (upd H q (.set (λk=>decide (k=i)) 1))):=by
 intro pins s Z H Q I h;rw[arm_eval_Set];refine aa (dz ?_);refine aa (PySem.W.kds_main I.fm lx λb=>?_);rw[PySem.W.kds_star _ (by rfl),bj];refine PySem.W.kds_core (ts:=(evalEach [Expr.Constant (.int i) j p] X.env).map λt=>do let v <- t;standAt pos;pure v) (by rfl) (by rfl) (by show 1<=30;decide) (by rw[bj];rfl) λled=>?_;refine PySem.W.kds_all pos _ _ _ ?_;show wpAny _ _ (eval (.Constant (.int i) j p) X.env) _ _ _;refine wpAny_Constant_int ?_;refine PySem.W.kds_fill_cons ?_;have HI:(s.heap.push { cls:=.type "set",dict:=none,data:=.set #[] 0 (.fresh 0 0 led) }).SetOf (intKind X.prog X.w) s.heap.objs.size (λ_=>false) 0:=(setObjOf_fresh led).setOf (au _ rfl) (by decide);unfold setAdd;refine bA (aa ((intKind X.prog X.w).pyHash (k:=i) (fj _ _ _ _) ?_));refine wpAny_setAddHashed_of (knd:=intKind X.prog X.w) (fj _ _ _ _) rfl HI (by decide) λh' wc jQ=>?_;refine PySem.W.kds_fill_nil (by rfl) ?_;have kp:∀b u,s.heap.get? b=some u->h'.get? b=some u:=λb u e=>(wc.2 b (aI (ao e))).trans (ai _ e);exact⟨.ref s.heap.objs.size,_,I.laid (a:=s.heap.objs.size) (o:=.set (λk=>decide (k=i)) 1) kp (aj _) (by show Heap.SetOf _ _ _ _ _;simpa using jQ),rfl,h _ (I.bz.fresh (aj _))⟩
theorem SK:eP X (compareOp .In) (λx y H Q=>∃i a S n,x=.int i/\y=.ref a/\H a=some (.set S n)/\Q (.bl (S i)) H):=by
 intro pins s Z H x y v u Q I rx ry h;obtain⟨i,a,S,n,rfl,rfl,ha,q⟩:=h;obtain⟨t,rfl⟩:=rx;cases ry;exact wpAny_inSet_of (knd:=intKind X.prog X.w) (k:=i) (fj _ _ _ _) rfl (I.bz a _ ha) ⟨.bl (S i),H,I.tok _,rfl,q⟩
theorem Vp:eP X (compareOp .NotIn) (λx y H Q=>∃i a S n,x=.int i/\y=.ref a/\H a=some (.set S n)/\Q (.bl (!S i)) H):=by
 intro pins s Z H x y v u Q I rx ry h;obtain⟨i,a,S,n,rfl,rfl,ha,q⟩:=h;obtain⟨t,rfl⟩:=rx;cases ry;exact wpAny_notInSet_of (knd:=intKind X.prog X.w) (k:=i) (fj _ _ _ _) rfl (I.bz a _ ha) ⟨.bl (!S i),H,I.tok _,rfl,q⟩
theorem Ue:jV X "set.add" (λx xs H Q=>∃a i S n,x=.ref a/\xs=[.int i]/\H a=some (.set S n)/\n+1<4096/\Q .aX (upd H a (.set (λk=>S k||decide (k=i)) (if S i then n else n+1)))):=by
 intro pins s Z H x vs v us Q I rx rv h;obtain⟨a,i,S,n,rfl,rfl,ha,hn,q⟩:=h;cases rx;obtain⟨u,rfl,t,rfl⟩:=rv.one;refine call_set_add (knd:=intKind X.prog X.w) (k:=i) (fj _ _ _ _) rfl (I.bz a _ ha) (show n+1<scanBound from hn) λh' wc jQ=>?_;obtain⟨o,es,ep,tb,ho,_⟩:=id jQ;exact⟨.aX,_,I.write (x:=a) (e:=a) (o:=.set (λk=>S k||decide (k=i)) (if S i then n else n+1)) (by rw[ha];trivial) (.inl rfl) (λb u hb e=>(wc.2 b hb).trans e) ⟨o,ho⟩ jQ,rfl,q⟩
def zX(K:PySem.W.Frag)(a:Addr)(n:Nat):It :=
 ⟨λi H=>∃xs x,eW K H a xs/\xs.length=n/\i<n/\xs[n-1-i]?=some x,λi H x H'=>H'=H/\∀xs,eW K H a xs->xs[n-1-i]?=some x,λi H=>n<=i⟩
theorem WW{P:Program}{w:World}{K:PySem.W.Frag}{tg:Expr}(a it:Addr)(n:Nat):Turn P w K tg (zX K a n) [it] it (λi h=>i<=n/\h.IsRevIter it a ((n:Int)-1-(i:Nat))) where
 mem:=by simp
 obj:=λi h st b hb=>by
  have e:b=it:=by simpa using hb
  subst e;obtain⟨o,e,c,d⟩:=st.2;exact⟨o,e,λv z=>by rw[d] at z;cases z⟩
 keep:=λi h h' st k=>⟨st.1,st.2.at λo e=>k it (by simp) o e⟩
 item:=by
  intro X hP hw hK hc i pins s Z H E I hf st hg;subst hP hw hK;obtain⟨xs,x,hq,hn,hi,hx⟩:=hg;obtain⟨aN,rv,p,hz⟩:=I.list hq;obtain⟨u,hu,ru⟩:=rv.get hx;obtain⟨f0,f1,f2,f3,f4,f5⟩:=hf it (by simp);have jf:=st.2;rw[show(n:Int)-1-(i:Nat)=((n-1-i:Nat):Int) by omega] at jf;refine wpAny_pyNext_rev_item jf p.isList (x:=u) (by simpa using hu) λh' kc sb=>?_;have I1:Inv X pins Z H { s with heap:=h' }:=I.turned (t':=s.toks) (λb o hb e=>(sb.2 b hb).trans e) f0 f1 f3 f4 f5;obtain⟨o,e,c,d⟩:=id kc;refine⟨u,rfl,uq (s:={ s with heap:=h' }) e c d (by decide) ⟨x,H,I1,ru,⟨rfl,λys hy=>by rw[I.yL hy hq];exact hx⟩,⟨by omega,?_⟩,λb hb=>(hf b hb).1⟩⟩;rw[show(n:Int)-1-((i+1:Nat):Int)=((n-1-i:Nat):Int)-1 by omega];exact kc
 done:=by
  intro X hP hw hK hc i pins s Z H E I hf st hg;subst hP hw hK;obtain⟨f0,f1,f2,f3,f4,f5⟩:=hf it (by simp);have jf:=st.2;have:n<=i:=hg;rw[show(n:Int)-1-(i:Nat)=-1 by have:=st.1;omega] at jf;exact wpAny_pyNext_rev_end (I.ok.hd hc) jf λh' eb=>⟨rfl,I.turned (t':=s.toks) (λb o hb e=>eb b o hb e) f0 f1 f3 f4 f5⟩
 self:=λ_ _ _ _ _ st h=>wpAny_pyIter_revIter st.2 h
theorem boot_reversed:bootBuiltins "reversed"=some (.type "reversed"):=by decide +kernel
theorem JB{tg l:Expr}{ta:TA}{p pos:Pos}(hg:Gl X "reversed")(hm:X.mg "reversed"=none)(ha:PA X [l] ta)(hs:starEach [l] X.env=[(false,eval l X.env)]) :
  PI X tg (.Call (.Name "reversed" p) [l] [] pos) (λZ H R=>ta Z H λvs H1=>∃a xs,vs=[.ref a]/\eW X.K H1 a xs/\R (zX X.K a xs.length) H1):=by
 intro pins s Z H R I h;refine Call_ (K6 I hg hm boot_reversed (bx (cb (ha pos pins s Z H _ I h) λus s1 aV=>?_) hs rfl));obtain⟨vs,H1,I1,r1,q1⟩:=aV;obtain⟨a,xs,e,hq,q⟩:=q1;subst e;cases r1 with
 |cons r rr =>
  cases rr;cases r;obtain⟨aN,rv,p,hz⟩:=I1.list hq;refine call_reversed_list p.isList ?_;have hl:=rv.length;have hit:(s1.heap.push (revObj a ((aN.toArray.size:Int)-1))).IsRevIter s1.heap.objs.size a ((xs.length:Int)-1-((0:Nat):Int)):=⟨_,au _ rfl,rfl,by simp[revObj,hl]⟩
  refine wpAny_pyIter_revIter hit ?_;refine⟨s1.heap.objs.size,[s1.heap.objs.size],_,_,H1,rfl,I1.kept (t':=s1.toks) λb o e=>ai _ e,WW a _ xs.length,⟨bY _,hit⟩,λb hb=>?_,q⟩;have e:b=s1.heap.objs.size:=by simpa using hb
  subst e;exact I1.nz (aj _) (I1.bz.fresh (aj _))
end L2
namespace ST
open PySem PyProof.Rows
section
variable{prog:Program}{w:World}{A:Around}{E:Value->Shared->Prop}{s:Shared}{a:Addr}
theorem Up{T:String}{o:Obj}{items:Array Value}{n:Nat}{ns:List Int}(hT:T="list"\/T="tuple")(ho:s.heap.get? a=some o)(hc:o.cls=.type T)(hd:o.data=.seq items n)(hI:IntsAre items.toList ns)(wV:ns.length<60){Q:Value->Shared->Prop}(h:∀(h1:Heap) (vs:List Value) (iM:List Int) e h',(∀b o',s.heap.get? b=some o'->h1.get? b=some o')->IntsAre vs iM->iM.Perm ns->iM.Pairwise (·<=·)->h'.get? h1.objs.size=some (seqObj "list" vs.toArray e)->(∀c o,h1.get? c=some o->h'.get? c=some o)->Q (.ref h1.objs.size) { s with heap:=h' }) :
  wpAny (model prog w) A (call (.builtin "sorted") [.ref a]) Q E s:=by
 have hl:items.toList.length=ns.length:=yI hI;refine gG kind_sorted plain_sorted entry_sorted (args_sorted1 _) ?_;unfold Builtin.«sorted»;refine aa (m:=checkCount "sorted" 1 1 _) (ah ?_);refine aa (wpAny_collect_seq (A:=A.in1) a hT ho hc hd (λh1 kp=>?_) (by simp at hl;unfold sizeLine;omega));have pv:items.toList.length<64:=by omega
 generalize items.toList=vs at *;refine aa (FZ (s:={ s with heap:=h1 }) ?_);have ke:(h1.push (seqObj "list" vs.toArray 0)).get? h1.objs.size=some (seqObj "list" vs.toArray 0):=au _ rfl;refine aa (bA (bS (s:={ s with heap:=h1.push (seqObj "list" vs.toArray 0) }) slot_list_sort ⟨_,ke,rfl⟩ entry_list_sort (list_sort_tree ke hI pv λout iM a1 a2 a3=>⟨_,rfl,?_⟩) (args_list_sort _)));obtain⟨e,om⟩:=sortedHeap_at (vs:=vs) (out:=out) ke;refine ah ⟨_,rfl,h h1 out.toList iM e _ kp a1 a2 a3 om (λc o' e'=>?_)⟩;have hc:=ao e';rw[sortedHeap_old (aI hc) (by rw[gi];exact jz hc)];exact ai _ e'
end
end ST
namespace L2
open PySem PyProof.Rows
def K3(ns:List Int):List Int:=ns.mergeSort (λa b=>decide (a<=b))
theorem DP(ns:List Int):(K3 ns).Pairwise (·<=·):=by
 have:=oX (le:=λa b:Int=>decide (a<=b)) (λa b c h1 h2=>by simp at *;omega) (λa b=>by simp;omega) ns;exact this.imp λh=>by simpa using h
theorem W9(ns:List Int):(K3 ns).Perm ns:=Ag _ _
section
variable{X:Cx}
theorem RG:m5 X (.builtin "sorted") (λxs H Q=>∃p,∃ns:List Int,xs=[.ref p]/\(eW X.K H p (ns.map V.int)\/gD X.K H p (ns.map V.int))/\ns.length<60/\∀l,H l=none->Q (.ref l) (upd H l (.lst ((K3 ns).map V.int)))):=by
 intro pins s Z H xs us Q I r h;obtain⟨p,ns,rfl,hq,hl,q⟩:=h;obtain⟨u,rfl,rx⟩:=vals1 r;cases rx;obtain⟨T,aN,o,n,hT,r',ho,hc,hd⟩:∃T,∃(aN:List Value) (o:Obj) (n:Nat),(T="list"\/T="tuple")/\Vals (ns.map V.int) aN/\s.heap.get? p=some o/\o.cls=.type T/\o.data=.seq aN.toArray n:=by
  rcases hq with hq|hq
  ·obtain⟨aN,r',pl,_⟩:=I.list hq;obtain⟨o,ho,hc,n,hd⟩:=pl.isList;exact⟨_,aN,o,n,.inl rfl,r',ho,hc,hd⟩
  ·obtain⟨aN,r',⟨o,ho,hc,n,hd⟩,_⟩:=I.tuple hq;exact⟨_,aN,o,n,.inr rfl,r',ho,hc,hd⟩
 refine ST.Up hT ho hc hd (O8 r') hl λh1 vs iM e h' kp i1 i2 i3 i4 i5=>?_;have e1:iM=K3 ns:=J6 (i2.trans (W9 ns).symm) i3 (DP ns);subst e1;have I1:Inv X pins Z H { s with heap:=h1 }:=I.kept (t':=s.toks) kp;have hz:(K3 ns).length<=10000:=by rw[(W9 ns).length_eq];omega
 exact⟨.ref h1.objs.size,_,(I1.laid (a:=h1.objs.size) (o:=.lst ((K3 ns).map V.int)) (t':=s.toks) i5 (aj _) ⟨by rw[av];exact aL hz (by decide),vs,e,W6 i1,i4⟩),rfl,q _ (I1.bz.fresh (aj _))⟩
theorem Dy:∀{ks:List Key} {l:List Value},l.length=ks.length->(∀(i:Nat) v,l[i]?=some v->∃k,ks[i]?=some k/\T1 k v=true)->Vals (ks.map kV) l
 |[],[],_,_=>.nil
 |k::ks,v::l,hl,h=>by
  obtain⟨k',e,hk⟩:=h 0 v rfl;cases e;refine .cons ?_ (Dy (by simpa using hl) λi v e=>h (i+1) v e);rcases m9 hk with⟨i,t,rfl,rfl⟩|⟨x,t,rfl,rfl⟩<;>exact⟨t,rfl⟩
theorem RE(hc:X.calm=true):m5 X (.type "list") (λxs H Q=>∃a kvs,xs=[.ref a]/\H a=some (.dK kvs)/\kvs.length<=10000/\∀p,H p=none->Q (.ref p) (upd H p (.lst ((kvs.map (·.1)).map kV)))):=by
 intro pins s Z H xs us Q I r h;obtain⟨a,kvs,rfl,ha,hl,q⟩:=h;obtain⟨u,rfl,rx⟩:=vals1 r;cases rx;obtain⟨_,hd,vs,kv,hD⟩:=uj I.bz ha;obtain⟨ep,hA⟩:=hD.dictAt;have pv:vs.length<=10000:=by rw[<- kv.length];exact hl
 refine PySem.W.kdl_call (PySem.W.kdl_dict (kvs:=vs) (ep:=ep) hd) (I.ok.hd hc) hA (aL pv (by decide)) λh' tk acc c k1 k2 k3=>?_;have hv:Vals ((kvs.map (·.1)).map kV) acc.toList:=by
  refine Dy (by rw[cU,k3.1,av,kv.length]) λi v e=>?_;obtain⟨k,x,e1,e2⟩:=k3.2 i v (by simpa using e);exact⟨k,by rw[kv.keys,aA,e1];rfl,e2⟩
 exact⟨.ref s.heap.objs.size,_,(I.laid (a:=s.heap.objs.size) (o:=.lst ((kvs.map (·.1)).map kV)) (t':=tk) k1 (aj _) ⟨by rw[av,av];exact aL hl (by decide),acc.toList,c,hv,by simpa using k2⟩),rfl,q _ (I.bz.fresh (aj _))⟩
end
end L2
namespace M
open PySem L2
set_option genInjectivity true in
inductive D where
 |aX|bl (b:Bool)|int (i:Int)|str (x:Str)|ty (n:String)|ref (i:Nat)|tup (l:List D)
set_option genInjectivity true in
inductive O where
 |lst (l:List D)|mI (l:List D)
 |bX (kvs:List (Key×D))
 |ins (c:Str) (fs:List (Str×D))
 |set (S:Int->Bool) (n:Nat)
def O.mut:O->Bool
 |.mI _=>false
 |_=>true
def Y5:D->Option Key
 |.int i=>some (.inl i)
 |.str x=>some (.inr x)
 |_=>none
def L8(kvs:List (Key×D))(k:Key):Option D:=(kvs.find? λkv=>decide (kv.1=k)).map (·.2)
def putD(kvs:List (Key×D))(k:Key)(v:D):List (Key×D) :=
 if(kvs.any λkv=>decide (kv.1=k))=true then kvs.map (λkv=>if kv.1=k then(kv.1,v) else kv) else kvs++[(k,v)]
def x8(f:Str)(v:D):List (Str×D)->List (Str×D)
 |[]=>[(f,v)]
 |(g,x)::r=>if g=f then(g,v)::r else(g,x)::x8 f v r
def M7:List D->Str->Option D
 |.tup [.str y,v]::r,x=>if x=y then some v else M7 r x
 |_::_,_=>none
 |[],_=>none
def Y6:List D->Option Str
 |[]=>some Str.empty
 |.str x::r=>(Y6 r).map λy=>x++y
 |_=>none
structure Xn where
 cls:Str
noncomputable abbrev G:=List O
noncomputable abbrev S:=List (Option D)
noncomputable abbrev KD:=D->G->Prop
noncomputable abbrev KX:=Xn->G->Prop
noncomputable abbrev iD:KX:=λ_ _=>False
def zH:Option O->Option (List D)
 |some (.lst l)=>some l
 |some (.mI l)=>some l
 |_=>none
noncomputable abbrev c8(g:G)(a:Nat):Option (List D):=zH g[a]?
def rd(g:G):Nat->D->Option PyData
 |_,.aX=>some .none
 |_,.bl b=>some (.bool b)
 |_,.int i=>some (.int i)
 |_,.str x=>some (.str x)
 |_,.ty _=>none
 |0,.ref _=>none
 |0,.tup _=>none
 |n+1,.ref a=>match c8 g a with
  |some l=>(l.mapM (rd g n)).map .list
  |none=>none
 |n+1,.tup l=>(l.mapM (rd g n)).map .tuple
def Ax(g:G)(l:List D):Option (List PyData):=l.mapM (rd g 6)
def D9(g:G):D->Option (List D)
 |.tup l=>some l
 |.ref a=>c8 g a
 |_=>none
def Y7:D->Bool
 |.aX=>true
 |_=>false
def cut{α:Type}(xs:List α)(lo hi:Option Int):List α:=(xs.drop (HT.df xs.length 0 lo)).take (HT.df xs.length xs.length hi-HT.df xs.length 0 lo)
def oP(g:G)(x:D)(c:String):Option Bool:=match x with
 |.aX=>some (c=="NoneType")
 |.bl _=>some (c=="bool"||c=="int")
 |.int _=>some (c=="int")
 |.str _=>some (c=="str")
 |.tup _=>some (c=="tuple")
 |.ref a=>match g[a]? with
  |some (.lst _)=>some (c=="list")
  |_=>none
 |.ty _=>none
def w6(lo:Int)(n:Nat):List D:=(List.range n).map λ(k:Nat)=>.int (lo+k)
def T4:List D->Option Bool
 |[]=>some true
 |.bl b::r=>(T4 r).map λc=>b&&c
 |_=>none
inductive Pr where
 |bin (op:Operator)|un (op:UnaryOp)|cmp (op:CmpOp)
 |ix|jg (lo hi:Bool)|rev|tup|lst|N8
 |len|list|tuple|isin|all|max|min|int|str|kT|kS|sset|Gp|rW
 |Bl|rQ|lB|fv|lC|fld (f:Str)
 |append|pop|get|index|join|iadd|clear|nQ|extend|any|eh|sum|Q5|mr|kd|jL (i:Int)
noncomputable abbrev DR:=List D->G->D->G->Prop
def RC:Operator->Int->Int->Int->Prop
 |.Add,i,j,r=>r=i+j
 |.Sub,i,j,r=>r=i-j
 |.Mult,i,j,r=>oI i j/\r=i*j
 |.FloorDiv,i,j,r=>xU i j/\r=i / j
 |.Mod,i,j,r=>0<j/\r=i % j
 |.Pow,i,j,r=>mK i j/\r=i ^ j.toNat
 |.LShift,i,j,r=>mK i j/\r=i*2 ^ j.toNat
 |.BitAnd,i,j,r=>r=Builtin.bitAnd i j
 |.BitOr,i,j,r=>r=Builtin.bitOr i j
 |_,_,_,_=>False
def Nj(op:Operator):DR:=λxs g d g' =>
 (∃i j r,xs=[.int i,.int j]/\RC op i j r/\d=.int r/\g'=g) \/
 (op=.Add/\((∃ l m,xs=[.tup l,.tup m]/\l.length + m.length <= 100000/\d=.tup (l ++ m)/\g'=g) \/
  (∃a b l m,xs=[.ref a,.ref b]/\g[a]?=some (.lst l)/\g[b]?=some (.lst m)/\l.length+m.length<=100000/\d=.ref g.length/\g'=g++[.lst (l++m)]) \/
  (∃ x y,xs=[.str x,.str y]/\x.length + y.length <= 100000/\d=.str (x ++ y)/\g'=g))) \/
 (op=.Mult/\((∃ a l n,xs=[.ref a,.int n]/\g[a]?=some (.lst l)/\-(2 ^ 62) <= n/\n < 2 ^ 62/\l.length * n.toNat <= 100000/\d=.ref g.length/\g'=g ++ [.lst (List.replicate n.toNat l).flatten]) \/
  (∃ l n,xs=[.tup l,.int n]/\l ≠ []/\1 <= n/\n < 2 ^ 62/\l.length * n.toNat <= 100000/\d=.tup (List.replicate n.toNat l).flatten/\g'=g)))
def Gg(op:UnaryOp):DR:=λxs g d g'=>op=.USub/\∃i,xs=[.int i]/\d=.int (-i)/\g'=g
def rV(g:G)(x y:D)(b:Bool):Prop :=
 (∃i j,x=.int i/\y=.int j/\b=decide (i=j))\/(∃i j,x=.bl i/\y=.bl j/\b=(i==j))\/(∃i j,x=.str i/\y=.str j/\b=decide (i=j)) \/
 ∃p q,rd g 6 x=some p/\rd g 6 y=some q/\p.canLay0=true/\q.canLay0=true/\b=PyData.eqv p q
def inR(g:G)(x y:D)(b:Bool):Prop :=
 (∃a kvs c,y=.ref a/\g[a]?=some (.bX kvs)/\Y5 x=some c/\b=(L8 kvs c).isSome) \/
 ∃l ps p,D9 g y=some l/\Ax g l=some ps/\rd g 6 x=some p/\PyData.canLayAll0 ps=true/\p.canLay0=true/\b=(ps.any λq=>PyData.eqv q p)
def BG(g:G)(x y:D)(b:Bool):Prop:=∃a S n i,y=.ref a/\g[a]?=some (.set S n)/\x=.int i/\b=S i
def CA(g:G)(x y:D)(b:Bool):CmpOp->Prop
 |.Eq=>rV g x y b
 |.NotEq=>rV g x y (!b)
 |.In=>inR g x y b\/BG g x y b
 |.NotIn=>inR g x y (!b)\/BG g x y (!b)
 |.Lt=>∃i j,x=.int i/\y=.int j/\b=decide (i<j)
 |.LtE=>∃i j,x=.int i/\y=.int j/\b=decide (i<=j)
 |.Gt=>∃i j,x=.int i/\y=.int j/\b=decide (j<i)
 |.GtE=>∃i j,x=.int i/\y=.int j/\b=decide (j<=i)
 |.Is=>y=.aX/\b=Y7 x
 |.IsNot=>y=.aX/\b=!Y7 x
def Np(op:CmpOp):DR:=λxs g d g'=>∃x y b,xs=[x,y]/\CA g x y b op/\d=.bl b/\g'=g
def BI(g:G)(x:D)(b:Bool):Prop :=
 (x=.aX/\b=false)\/x=.bl b\/(∃i,x=.int i/\b=(i != 0))\/(∃l,x=.tup l/\b=!l.isEmpty)\/∃a l,x=.ref a/\c8 g a=some l/\b=!l.isEmpty
def GQ:DR:=λxs g d g'=>g'=g/\((∃x l i,xs=[x,.int i]/\D9 g x=some l/\iu l i=some d)\/(∃a kvs y c,xs=[.ref a,y]/\g[a]?=some (.bX kvs)/\Y5 y=some c/\L8 kvs c=some d) \/
 ∃ x i c,xs=[.str x,.int i]/\x.length <= 100000/\iu x.cps.toList i=some c/\d=.str ⟨#[c]⟩)
def qq(x:D)(lo hi:Option Int)(g:G)(d:D)(g':G):Prop:=(∃l,x=.tup l/\d=.tup (cut l lo hi)/\g'=g)\/∃a l,x=.ref a/\c8 g a=some l/\d=.ref g.length/\g'=g++[.lst (cut l lo hi)]
def Ot:Bool->Bool->DR
 |false,false,xs,g,d,g'=>∃x,xs=[x]/\qq x none none g d g'
 |true,false,xs,g,d,g'=>∃x i,xs=[x,.int i]/\qq x (some i) none g d g'
 |false,true,xs,g,d,g'=>∃x j,xs=[x,.int j]/\qq x none (some j) g d g'
 |true,true,xs,g,d,g'=>∃x i j,xs=[x,.int i,.int j]/\qq x (some i) (some j) g d g'
def Oj:DR:=λxs g d g'=>(∃l,xs=[.tup l]/\d=.tup l.reverse/\g'=g)\/∃a l,xs=[.ref a]/\c8 g a=some l/\d=.ref g.length/\g'=g++[.lst l.reverse]
def OP:DR:=λxs g d g'=>xs.length<=1000/\d=.tup xs/\g'=g
def NN:DR:=λxs g d g'=>xs.length<=1000/\d=.ref g.length/\g'=g++[.lst xs]
def pI:List D->List (Key×D)->Option (List (Key×D))
 |[],kvs=>some kvs
 |k::v::r,kvs=>(Y5 k).bind λc=>pI r (putD kvs c v)
 |_,_=>none
def Pk:DR:=λxs g d g'=>xs=[]/\d=.ref g.length/\g'=g++[.bX []]
def NL:DR:=λxs g d g'=>g'=g/\((∃x l,xs=[x]/\D9 g x=some l/\d=.int l.length)\/(∃a kvs,xs=[.ref a]/\g[a]?=some (.bX kvs)/\d=.int kvs.length)\/∃x,xs=[.str x]/\x.length<=100000/\d=.int x.length)
def kD:Key->D
 |.inl i=>.int i
 |.inr x=>.str x
def PL:DR:=λxs g d g'=>(∃x l,xs=[x]/\D9 g x=some l/\d=.ref g.length/\g'=g++[.lst l])\/∃a kvs,xs=[.ref a]/\g[a]?=some (.bX kvs)/\kvs.length<=10000/\d=.ref g.length/\g'=g++[.lst ((kvs.map (·.1)).map kD)]
def KG:DR:=λxs g d g'=>∃x l,xs=[x]/\D9 g x=some l/\d=.tup l/\g'=g
def Pw:DR:=λxs g d g'=>∃x c b,xs=[x,.ty c]/\c∈["int","bool","str","tuple","list"]/\oP g x c=some b/\d=.bl b/\g'=g
def allR:DR:=λxs g d g'=>∃a l b,xs=[.ref a]/\c8 g a=some l/\(T4 l=some b\/∃ns:List Int,l=ns.map .int/\b=ns.all λn=>n != 0)/\d=.bl b/\g'=g
def BN:List D->Option Bool
 |[]=>some false
 |.bl b::r=>(BN r).map λc=>b||c
 |_=>none
def anyR:DR:=λxs g d g'=>∃a l b,xs=[.ref a]/\c8 g a=some l/\BN l=some b/\d=.bl b/\g'=g
def Kh:DR:=λxs g d g'=>(∃a kvs ns,xs=[.ref a]/\g[a]?=some (.bX kvs)/\kvs.map (·.1)=ns.map Sum.inl/\ns.length<60/\d=.ref g.length/\g'=g++[.lst ((n9 ns).map .int)])\/∃x,∃ns:List Int,xs=[x]/\D9 g x=some (ns.map .int)/\ns.length<60/\d=.ref g.length/\g'=g++[.lst ((K3 ns).map .int)]
def NO:DR:=λxs g d g'=>g'=g/\((∃i j,xs=[.int i,.int j]/\d=.int (if j>i then j else i))\/∃a,∃(ns:List Int) (M:Int),xs=[.ref a]/\c8 g a=some (ns.map .int)/\M∈ns/\(∀x∈ns,x<=M)/\d=.int M)
def NP:DR:=λxs g d g'=>g'=g/\((∃i j,xs=[.int i,.int j]/\d=.int (if j<i then j else i))\/∃a,∃(ns:List Int) (M:Int),xs=[.ref a]/\c8 g a=some (ns.map .int)/\M∈ns/\(∀x∈ns,M<=x)/\d=.int M)
def Qy:DR:=λxs g d g'=>∃a i S n,xs=[.ref a,.int i]/\g[a]?=some (.set S n)/\n+1<4096/\d=.aX/\g'=g.set a (.set (λk=>S k||decide (k=i)) (if S i then n else n+1))
def JR(i:Int):DR:=λxs g d g'=>xs=[]/\d=.ref g.length/\g'=g++[.set (λk=>decide (k=i)) 1]
def Ov:DR:=λxs g d g'=>∃a,∃ns:List Int,xs=[.ref a]/\c8 g a=some (ns.map .int)/\d=.int ns.sum/\g'=g
def PN:DR:=λxs g d g'=>∃a,∃ns:List Int,xs=[.ref a]/\c8 g a=some (ns.map .int)/\ns.length<60/\d=.int (ST.f9 [] ns).length/\g'=g
def Px:DR:=λxs g d g'=>∃i j,xs=[.int i,.int j]/\d=.int (i-j)/\g'=g
def NH:DR:=λxs g d g'=>g'=g/\((∃i,xs=[.int i]/\d=.int i)\/∃b,xs=[.bl b]/\d=.int (if b then 1 else 0))
def Ou:DR:=λxs g d g'=>(∃i,xs=[.int i]/\i.natAbs.log2<1920/\d=.str (toString i)/\g'=g)\/∃x,xs=[.str x]/\d=.str x/\g'=g
def IU:DR:=λxs g d g'=>∃j,xs=[.int j]/\-(2 ^ 62)<=j/\j<=100000/\d=.ref g.length/\g'=g++[.lst (w6 0 j.toNat)]
def IV:DR:=λxs g d g'=>∃i j,xs=[.int i,.int j]/\(-(2 ^ 62)<=i/\i<2 ^ 62/\-(2 ^ 62)<=j/\j<2 ^ 62/\j-i<=100000)/\d=.ref g.length/\g'=g++[.lst (w6 i (j-i).toNat)]
def QC:DR:=λxs g d g'=>∃a ns,xs=[.ref a]/\c8 g a=some (ns.map .int)/\ns.length<60/\d=.ref g.length/\g'=g++[.lst ((n9 ns).map .int)]
def Ow:DR:=λxs g d g'=>∃ns ms:List Int,xs=[.tup (ns.map .int),.tup (ms.map .int)]/\(∀k∈ns,ST.Spot k)/\(∀k∈ms,ST.Spot k)/\ns.length+ms.length<50/\d=.ref g.length/\g'=g++[.lst ((n9 (ns++ms)).map .int)]
def zM(neg:Bool):DR:=λxs g d g'=>∃kvs x,xs=[.tup kvs,.str x]/\d=.bl (xor neg (M7 kvs x).isSome)/\g'=g
def Po:DR:=λxs g d g'=>∃kvs x,xs=[.tup kvs,.str x]/\M7 kvs x=some d/\g'=g
def Ii:DR:=λxs g d g'=>g'=g/\((∃i,xs=[.int i]/\i.natAbs.log2<1920/\d=.str (toString i))\/∃x,xs=[.str x]/\x.length<=2000/\d=.str x)
def Pn:DR:=λxs g d g'=>∃x,Y6 xs=some x/\d=.str x/\g'=g
def Ny(f:Str):DR:=λxs g d g'=>∃a c fs,xs=[.ref a]/\g[a]?=some (.ins c fs)/\fs.lookup f=some d/\g'=g
def appendR:DR:=λxs g d g'=>∃a y l,xs=[.ref a,y]/\g[a]?=some (.lst l)/\l.length<100000/\d=.aX/\g'=g.set a (.lst (l++[y]))
def NY:DR:=λxs g d g'=>∃a i l k,xs=[.ref a,.int i]/\g[a]?=some (.lst l)/\-(2 ^ 63)<=i/\i<2 ^ 63/\seqIndex? i l.length=some k/\l[k]?=some d/\g'=g.set a (.lst (l.eraseIdx k))
def NB:DR:=λxs g d g'=>∃a y z kvs c,xs=[.ref a,y,z]/\g[a]?=some (.bX kvs)/\Y5 y=some c/\d=(L8 kvs c).getD z/\g'=g
def uk:D->Bool
 |.aX=>true
 |.bl _=>true
 |.int _=>true
 |.str _=>true
 |_=>false
def toV:D->V
 |.bl b=>.bl b
 |.int i=>.int i
 |.str x=>.str x
 |_=>.aX
def FP(l:List D)(y:D)(n:Nat):Prop:=l.all uk=true/\uk y=true/\(∃z,l[n]?=some z/\lP (toV z) (toV y)=true)/\∀(m:Nat) z,m<n->l[m]?=some z->lP (toV z) (toV y)=false
def ID:DR:=λxs g d g'=>∃x y l n,xs=[x,y]/\D9 g x=some l/\FP l y n/\l.length<=100000/\d=.int n/\g'=g
def joinR:DR:=λxs g d g'=>∃sep a ys,xs=[.str sep,.ref a]/\c8 g a=some (ys.map .str)/\Lr sep ys<=100000/\d=.str (Builtin.Str.glued sep ys)/\g'=g
def Pt:DR:=λxs g d g'=>(∃i j,xs=[.int i,.int j]/\d=.int (i+j)/\g'=g)\/∃l m,xs=[.tup l,.tup m]/\l.length+m.length<=100000/\d=.tup (l++m)/\g'=g
def Rc:DR:=λxs g d g'=>∃a l,xs=[.ref a]/\g[a]?=some (.lst l)/\d=.aX/\g'=g.set a (.lst [])
def Qo:DR:=λxs g d g'=>∃a l,xs=[.ref a]/\g[a]?=some (.lst (l++[d]))/\g'=g.set a (.lst l)
def Lf:DR:=λxs g d g'=>∃a b l m,xs=[.ref a,.ref b]/\g[a]?=some (.lst l)/\g[b]?=some (.lst m)/\l.length+m.length<=100000/\d=.aX/\g'=g.set a (.lst (l++m))
def Rg:DR:=λxs g d g'=>∃a kvs,xs=[.ref a]/\g[a]?=some (.bX kvs)/\d=.ref g.length/\g'=g++[.bX kvs]
def PR:Pr->DR
 |.clear=>Rc
 |.any=>anyR
 |.sum=>Ov
 |.kd=>Qy
 |.jL i=>JR i
 |.Q5=>PN
 |.mr=>Px
 |.eh=>Kh
 |.extend=>Lf
 |.nQ=>Qo
 |.rW=>Rg
 |.bin op=>Nj op
 |.un op=>Gg op
 |.cmp op=>Np op
 |.ix=>GQ
 |.jg a b=>Ot a b
 |.rev=>Oj
 |.tup=>OP
 |.lst=>NN
 |.N8=>Pk
 |.len=>NL
 |.list=>PL
 |.tuple=>KG
 |.isin=>Pw
 |.all=>allR
 |.max=>NO
 |.min=>NP
 |.int=>NH
 |.str=>Ou
 |.kT=>IU
 |.kS=>IV
 |.sset=>QC
 |.Gp=>Ow
 |.Bl=>zM false
 |.rQ=>zM true
 |.lB=>Po
 |.fv=>Ii
 |.lC=>Pn
 |.fld f=>Ny f
 |.append=>appendR
 |.pop=>NY
 |.get=>NB
 |.index=>ID
 |.join=>joinR
 |.iadd=>Pt
def cG(p:Pr)(xs:List D)(g:G)(Q:KD):Prop:=∃d g',PR p xs g d g'/\Q d g'
def pD(g:G)(x y:D)(k:Bool->Prop):Prop:=∃b,rV g x y b/\k b
def ph(g:G)(x y:D)(k:Bool->Prop):Prop:=∃b,inR g x y b/\k b
def nB(g:G)(x:D)(k:Bool->Prop):Prop:=∃b,BI g x b/\k b
def Oq(x y v:D)(g g':G):Prop:=(∃a i l j,x=.ref a/\y=.int i/\g[a]?=some (.lst l)/\lH l.length i=some j/\g'=g.set a (.lst (l.set j v))) \/
 ∃a kvs c,x=.ref a/\g[a]?=some (.bX kvs)/\Y5 y=some c/\kvs.length<100000/\g'=g.set a (.bX (putD kvs c v))
def X2(x y v:D)(g:G)(k:G->Prop):Prop:=∃g',Oq x y v g g'/\k g'
def Cn(f:Str)(cs:List Str)(x v:D)(g g':G):Prop:=∃a c fs,x=.ref a/\g[a]?=some (.ins c fs)/\c∈cs/\fs.length<100/\g'=g.set a (.ins c (x8 f v fs))
def sJ(f:Str)(cs:List Str)(x v:D)(g:G)(k:G->Prop):Prop:=∃g',Cn f cs x v g g'/\k g'
def mX:Pr->D->G->Prop
 |.get,x,g=>∃a kvs,x=.ref a/\g[a]?=some (.bX kvs)
 |.join,x,g=>∃y,x=.str y
 |.kd,x,g=>∃a S n,x=.ref a/\g[a]?=some (.set S n)
 |.index,x,g=>(∃l,x=.tup l)\/∃a l,x=.ref a/\c8 g a=some l
 |_,x,g=>∃a l,x=.ref a/\c8 g a=some l
inductive IK where
 |fix (l:List D)|lst (a:Nat)|oz (a:Nat)|tP (a n:Nat)
def IK.at:IK->Nat->G->Option (Option D)
 |.fix l,i,_=>some l[i]?
 |.lst a,i,g=>match c8 g a with
  |some l=>some l[i]?
  |none=>none
 |.oz a,i,g=>match c8 g a with
  |some l=>some (l[i]?.map λd=>.tup [.int i,d])
  |none=>none
 |.tP a n,i,g=>match c8 g a with
  |some l=>if l.length=n then some (if i<n then l[n-1-i]? else none) else none
  |none=>none
inductive MT where
 |one (i:Nat)|many (is:List Nat)
def C0:List Nat->List D->S->Option S
 |[],[],Z=>some Z
 |i::is,d::ds,Z=>C0 is ds (Z.set i (some d))
 |_,_,_=>none
def je(t:MT)(x:D)(Z:S)(k:S->Prop):Prop:=match t with
 |.one i=>k (Z.set i (some x))
 |.many is=>∃l bD,x=.tup l/\C0 is l Z=some bD/\k bD
set_option genInjectivity false in
set_option genSizeOf false in
inductive ME where
 |var (i:Nat)|lit (d:D)
 |nil|cons (a b:ME)|prim (p:Pr) (es:ME)|dS (p:Pr) (o es:ME)|lR (es:ME)
 |chain (o1 o2:CmpOp) (a b c:ME)
 |dk (a b:ME)|gK (a b:ME)|cJ (a:ME)|ite (c a b:ME)
 |call (f:Nat) (es:ME)|make (c:Str) (f:Nat) (es:ME)|bp (m:Str) (cs:List (Str×Nat)) (o es:ME)
 |comp (d0:List Nat) (n:Nat) (tg:MT) (it cond elt:ME)|gb (d0:List Nat) (n:Nat) (tg:MT) (it cond elt:ME)|jh (d0:List Nat) (n:Nat) (tg:MT) (it cond elt:ME)
 |ei (e:ME)|fc (a:ME)|iq (a b:ME)|jC (e:ME)|mq (e:ME)|dA (e:ME)|no
noncomputable abbrev eG:=Nat->List D->G->KD->KX->Prop
def L1(Z:S)(d0:List Nat)(n:Nat):S:=d0.map (λj=>(Z[j]?).join)++List.replicate (n-d0.length) none
def turns(k:IK)(Z:S)(g:G)(fin:S->G->Prop)(turn:D->(S->G->Prop)->S->G->Prop):Prop :=
 ∃W:Nat->Nat->S->G->Prop,(∃m,W 0 m Z g)/\∀i m Z g,W i m Z g->(k.at i g=some none/\fin Z g)\/∃x,k.at i g=some (some x)/\∃N2:S->G->Prop,(∀bD g',N2 bD g'->∃m',m'<m/\W (i+1) m' bD g')/\turn x N2 Z g
def uJ(k:IK)(Z:S)(g:G)(fin:List D->G->Prop)(turn:D->(Option D->S->G->Prop)->S->G->Prop):Prop :=
 ∃W:Nat->Nat->List D->S->G->Prop,(∃m,W 0 m [] Z g)/\∀i m ys Z g,W i m ys Z g->(k.at i g=some none/\fin ys g) \/
  ∃x,k.at i g=some (some x)/\ys.length<100000/\turn x (λy bD g'=>∃m',m'<m/\W (i+1) m' (ys++y.toList) bD g') Z g
def yb(k:IK)(Z:S)(g:G)(fin:List Int->G->Prop)(turn:D->(Option Int->S->G->Prop)->S->G->Prop):Prop :=
 ∃W:Nat->Nat->List Int->S->G->Prop,(∃m,W 0 m [] Z g)/\∀i m ys Z g,W i m ys Z g->(k.at i g=some none/\ys.length<60/\fin ys g) \/
  ∃x,k.at i g=some (some x)/\ys.length<60/\turn x (λy bD g'=>∃m',m'<m/\W (i+1) m' (ys++y.toList) bD g') Z g
mutual
noncomputable def aP(P:eG):ME->S->G->KD->KX->Prop
 |.var i,Z,g,Q,_=>∃d,Z[i]?=some (some d)/\Q d g
 |.lit d,_,g,Q,_=>Q d g
 |.prim p es,Z,g,Q,E=>eJ P es Z g (λxs g1=>cG p xs g1 Q) E
 |.dS p o es,Z,g,Q,E=>aP P o Z g (λx g1=>mX p x g1/\eJ P es Z g1 (λxs g2=>cG p (x::xs) g2 Q) E) E
 |.lR es,Z,g,Q,E=>eJ P es Z (g++[.bX []]) (λxs g1=>∃kvs,pI xs []=some kvs/\xs.length<=30/\g1[g.length]?=some (.bX [])/\Q (.ref g.length) (g1.set g.length (.bX kvs))) E
 |.chain o1 o2 a b c,Z,g,Q,E=>aP P a Z g (λx g1=>aP P b Z g1 (λy g2=>cG (.cmp o1) [x,y] g2 λz g3=>∃t,z=.bl t/\if t=true then aP P c Z g3 (λw g4=>cG (.cmp o2) [y,w] g4 Q) E else Q (.bl false) g3) E) E
 |.dk a b,Z,g,Q,E=>aP P a Z g (λx g1=>∃t,x=.bl t/\if t=true then aP P b Z g1 Q E else Q (.bl false) g1) E
 |.gK a b,Z,g,Q,E=>aP P a Z g (λx g1=>∃t,x=.bl t/\if t=true then Q (.bl true) g1 else aP P b Z g1 Q E) E
 |.cJ a,Z,g,Q,E=>aP P a Z g (λx g1=>∃t,x=.bl t/\Q (.bl (!t)) g1) E
 |.ite c a b,Z,g,Q,E=>da P c Z g (λt g1=>if t=true then aP P a Z g1 Q E else aP P b Z g1 Q E) E
 |.call f es,Z,g,Q,E=>eJ P es Z g (λxs g1=>P f xs g1 Q E) E
 |.make c f es,Z,g,Q,E=>eJ P es Z g (λxs g1=>P f (.ref g1.length::xs) (g1++[.ins c []]) (λd g2=>d=.aX/\Q (.ref g1.length) g2) E) E
 |.bp m cs o es,Z,g,Q,E=>aP P o Z g (λx g1=>∃a c fs f,x=.ref a/\g1[a]?=some (.ins c fs)/\fs.lookup m=none/\cs.lookup c=some f/\eJ P es Z g1 (λxs g2=>P f (x::xs) g2 Q E) E) E
 |.comp d0 n tg it cond elt,Z,g,Q,E=>fZ P it Z g (λk g1=>uJ k (L1 Z d0 n) g1 (λys g=>Q (.ref g.length) (g++[.lst ys])) λx N Z g=>je tg x Z λcw=>da P cond cw g (λb g3=>if b=true then aP P elt cw g3 (λy g4=>N (some y) cw g4) iD else N none cw g3) iD) E
 |.jh d0 n tg it cond elt,Z,g,Q,E=>fZ P it Z g (λk g1=>uJ k (L1 Z d0 n) g1 (λys g=>Q (.ref g.length) (g++[.lst ys])) λx N Z g=>je tg x Z λcw=>da P cond cw g (λb g3=>if b=true then aP P elt cw g3 (λy g4=>N (some y) cw g4) E else N none cw g3) iD) E
 |.gb d0 n tg it cond elt,Z,g,Q,E=>fZ P it Z g (λk g1=>yb k (L1 Z d0 n) g1 (λys g=>Q (.ref g.length) (g++[.lst ((n9 ys).map .int)])) λx N Z g=>je tg x Z λcw=>da P cond cw g (λb g3=>if b=true then aP P elt cw g3 (λy g4=>∃j,y=.int j/\N (some j) cw g4) iD else N none cw g3) iD) E
 |.nil,_,_,_,_=>False
 |.cons _ _,_,_,_,_=>False
 |.ei _,_,_,_,_=>False
 |.fc _,_,_,_,_=>False
 |.iq _ _,_,_,_,_=>False
 |.jC _,_,_,_,_=>False
 |.mq _,_,_,_,_=>False
 |.dA _,_,_,_,_=>False
 |.no,_,_,_,_=>False
noncomputable def eJ(P:eG):ME->S->G->(List D->G->Prop)->KX->Prop
 |.nil,_,g,Q,_=>Q [] g
 |.cons a b,Z,g,Q,E=>aP P a Z g (λx g1=>eJ P b Z g1 (λxs g2=>Q (x::xs) g2) E) E
 |_,_,_,_,_=>False
noncomputable def da(P:eG):ME->S->G->(Bool->G->Prop)->KX->Prop
 |.dk a b,Z,g,Q,E=>da P a Z g (λt g1=>if t=true then da P b Z g1 Q E else Q false g1) E
 |.gK a b,Z,g,Q,E=>da P a Z g (λt g1=>if t=true then Q true g1 else da P b Z g1 Q E) E
 |.cJ a,Z,g,Q,E=>da P a Z g (λt g1=>Q (!t) g1) E
 |.no,_,g,Q,_=>Q true g
 |.dA e,Z,g,Q,E=>aP P e Z g (λx g1=>nB g1 x λb=>Q b g1) E
 |_,_,_,_,_=>False
noncomputable def fZ(P:eG):ME->S->G->(IK->G->Prop)->KX->Prop
 |.ei e,Z,g,R,E=>aP P e Z g (λx g1=>(∃l,x=.tup l/\R (.fix l) g1)\/∃a l,x=.ref a/\c8 g1 a=some l/\R (.lst a) g1) E
 |.fc a,Z,g,R,E=>aP P a Z g (λx g1=>∃j:Int,x=.int j/\-(2 ^ 62)<=j/\j<2 ^ 62/\R (.fix (w6 0 j.toNat)) g1) E
 |.iq a b,Z,g,R,E=>aP P a Z g (λx g1=>aP P b Z g1 (λy g2=>∃i j:Int,x=.int i/\y=.int j/\(-(2 ^ 62)<=i/\i<2 ^ 62/\-(2 ^ 62)<=j/\j<2 ^ 62)/\R (.fix (w6 i (j-i).toNat)) g2) E) E
 |.jC e,Z,g,R,E=>aP P e Z g (λx g1=>∃a l,x=.ref a/\c8 g1 a=some l/\R (.oz a) g1) E
 |.mq e,Z,g,R,E=>aP P e Z g (λx g1=>∃a l,x=.ref a/\c8 g1 a=some l/\R (.tP a l.length) g1) E
 |_,_,_,_,_=>False
end
set_option genInjectivity false in
set_option genSizeOf false in
inductive MS where
 |pass|seq (a b:MS)|expr (e:ME)|set (i:Nat) (e:ME)|kJ (t:MT) (e:ME)|cF (o i v:ME)|fk (f:Str) (cs:List Str) (o v:ME)
 |jo (f:Str) (cs:List Str) (o v:ME)|iR (i:Nat) (p:Pr) (v:ME)|tN (o1 i1 o2 i2 e:ME)
 |ifs (c:ME) (a b:MS)|dU (t:MT) (it:ME) (b:MS)|ij (c:ME) (b:MS)|ret (e:ME)|nN|brk|cont
 |raise (x:Str) (es:ME)|W7 (b:MS) (hs:List (Str×ME))
structure Ends where
 nx:S->G->Prop
 rt:KD
 bk:S->G->Prop:=λ_ _=>False
 ct:S->G->Prop:=λ_ _=>False
def jJ(P:eG)(N:Ends)(Z:S)(E:KX):List (Str×ME)->KX
 |[],x,g=>E x g
 |(y,e)::r,x,g=>if x.cls=y\/y="MintError" then aP P e Z g N.rt iD else jJ P N Z E r x g
def wpS(P:eG):MS->Ends->S->G->KX->Prop
 |.pass,N,Z,g,_=>N.nx Z g
 |.seq a b,N,Z,g,E=>wpS P a { N with nx:=λgP g1=>wpS P b N gP g1 E } Z g E
 |.expr e,N,Z,g,E=>aP P e Z g (λ_ g1=>N.nx Z g1) E
 |.set i e,N,Z,g,E=>aP P e Z g (λx g1=>N.nx (Z.set i (some x)) g1) E
 |.kJ t e,N,Z,g,E=>aP P e Z g (λx g1=>je t x Z λgP=>N.nx gP g1) E
 |.cF o i v,N,Z,g,E=>aP P v Z g (λx g1=>aP P o Z g1 (λy g2=>aP P i Z g2 (λz g3=>X2 y z x g3 λg4=>N.nx Z g4) E) E) E
 |.fk f cs o v,N,Z,g,E=>aP P v Z g (λx g1=>aP P o Z g1 (λy g2=>sJ f cs y x g2 λg3=>N.nx Z g3) E) E
 |.jo f cs o v,N,Z,g,E=>aP P o Z g (λy g1=>∃a c fs x,y=.ref a/\g1[a]?=some (.ins c fs)/\c∈cs/\fs.lookup f=some x/\aP P v Z g1 (λz g3=>cG .iadd [x,z] g3 λw g4=>∃ia,g4[a]?=some (.ins c ia)/\ia.length<100/\N.nx Z (g4.set a (.ins c (x8 f w ia)))) E) E
 |.tN o1 i1 o2 i2 e,N,Z,g,E=>aP P e Z g (λx g1=>∃u v,x=.tup [u,v]/\aP P o1 Z g1 (λy1 g2=>aP P i1 Z g2 (λz1 g3=>X2 y1 z1 u g3 λg4=>aP P o2 Z g4 (λy2 g5=>aP P i2 Z g5 (λz2 g6=>X2 y2 z2 v g6 λg7=>N.nx Z g7) E) E) E) E) E
 |.iR i p v,N,Z,g,E=>∃x,Z[i]?=some (some x)/\aP P v Z g (λz g1=>cG p [x,z] g1 λw g2=>N.nx (Z.set i (some w)) g2) E
 |.ifs c a b,N,Z,g,E=>da P c Z g (λt g1=>if t=true then wpS P a N Z g1 E else wpS P b N Z g1 E) E
 |.dU t it b,N,Z,g,E=>fZ P it Z g (λk g1=>turns k Z g1 N.nx λx N2 Z g=>je t x Z λcw=>wpS P b { N with nx:=N2,ct:=N2,bk:=N.nx } cw g E) E
 |.ij c b,N,Z,g,E=>∃W:Nat->S->G->Prop,(∃m,W m Z g)/\∀m Z g,W m Z g->da P c Z g (λt g1=>if t=true then ∃N2:S->G->Prop,(∀bD g',N2 bD g'->∃m',m'<m/\W m' bD g')/\wpS P b { N with nx:=N2,ct:=N2,bk:=N.nx } Z g1 E else N.nx Z g1) E
 |.ret e,N,Z,g,E=>aP P e Z g N.rt E
 |.nN,N,_,g,_=>N.rt .aX g
 |.brk,N,Z,g,_=>N.bk Z g
 |.cont,N,Z,g,_=>N.ct Z g
 |.raise x es,_,Z,g,E=>eJ P es Z g (λvs g1=>vs.length<=1000/\E ⟨x⟩ g1) E
 |.W7 b hs,N,Z,g,E=>wpS P b N Z g (jJ P N (Z.map λ_=>none) E hs)
structure aM where
 ar:Nat
 n:Nat
 body:MS
def b9(m:aM)(ds:List D):S:=ds.map some++List.replicate (m.n-ds.length) none
def b0(T:Nat->Option aM):Nat->eG
 |0,_,_,_,_,_=>False
 |k+1,f,ds,g,Q,E=>∃m,T f=some m/\ds.length=m.ar/\wpS (b0 T k) m.body ⟨λ_ g'=>Q .aX g',Q,λ_ _=>False,λ_ _=>False⟩ (b9 m ds) g E
end M
namespace M
open PySem L2
variable{g:G}{K:PySem.W.Frag}{H:Hp}{a p:Addr}{vs:List V}{i:Nat}{o:O}{u:HO}{l:List D}
theorem n6{p xs}{Q Q':KD}(h:∀d g,Q d g->Q' d g)(q:cG p xs g Q):cG p xs g Q':=by
 obtain⟨d,g',a,b⟩:=q;exact⟨d,g',a,h _ _ b⟩
theorem Tn{x}{k k':Bool->Prop}(h:∀b,k b->k' b)(q:nB g x k):nB g x k':=by
 obtain⟨b,a,z⟩:=q;exact⟨b,a,h _ z⟩
theorem S4{x y v}{k k':G->Prop}(h:∀g,k g->k' g)(q:X2 x y v g k):X2 x y v g k':=by
 obtain⟨b,a,z⟩:=q;exact⟨b,a,h _ z⟩
theorem Um{f cs x v}{k k':G->Prop}(h:∀g,k g->k' g)(q:sJ f cs x v g k):sJ f cs x v g k':=by
 obtain⟨b,a,z⟩:=q;exact⟨b,a,h _ z⟩
theorem v7{t x Z}{k k':S->Prop}(h:∀Z,k Z->k' Z)(q:je t x Z k):je t x Z k':=by
 cases t with
 |one i=>exact h _ q
 |many is=>obtain⟨l,bD,a,b,c⟩:=q;exact⟨l,bD,a,b,h _ c⟩
theorem Uu{k Z g}{fin jm:S->G->Prop}{turn gz:D->(S->G->Prop)->S->G->Prop}(h:∀Z g,fin Z g->jm Z g)(h2:∀x N Z g,turn x N Z g->gz x N Z g)(q:turns k Z g fin turn):turns k Z g jm gz:=by
 obtain⟨W,w0,q⟩:=q;refine⟨W,w0,λi m Z g w=>?_⟩;rcases q i m Z g w with⟨a,b⟩|⟨x,a,N2,b,c⟩
 ·exact .inl ⟨a,h _ _ b⟩
 ·exact .inr ⟨x,a,N2,b,h2 _ _ _ _ c⟩
theorem Ec{k Z g}{fin jm:List D->G->Prop}{turn gz:D->(Option D->S->G->Prop)->S->G->Prop}(h:∀ys g,fin ys g->jm ys g)(h2:∀x N Z g,turn x N Z g->gz x N Z g)(q:uJ k Z g fin turn):uJ k Z g jm gz:=by
 obtain⟨W,w0,q⟩:=q;refine⟨W,w0,λi m ys Z g w=>?_⟩;rcases q i m ys Z g w with⟨a,b⟩|⟨x,a,b,c⟩
 ·exact .inl ⟨a,h _ _ b⟩
 ·exact .inr ⟨x,a,b,h2 _ _ _ _ c⟩
theorem UZ{k Z g}{fin jm:List Int->G->Prop}{turn gz:D->(Option Int->S->G->Prop)->S->G->Prop}(h:∀ys g,fin ys g->jm ys g)(h2:∀x N Z g,turn x N Z g->gz x N Z g)(q:yb k Z g fin turn):yb k Z g jm gz:=by
 obtain⟨W,w0,q⟩:=q;refine⟨W,w0,λi m ys Z g w=>?_⟩;rcases q i m ys Z g w with⟨a,b,c⟩|⟨x,a,b,c⟩
 ·exact .inl ⟨a,b,h _ _ c⟩
 ·exact .inr ⟨x,a,b,h2 _ _ _ _ c⟩
theorem E5{t:Bool}{A B A' B':Prop}(h1:A->A')(h2:B->B')(q:if t=true then A else B):if t=true then A' else B':=by
 cases t
 ·exact h2 q
 ·exact h1 q
def i0(P:eG):Prop:=∀f xs g Q Q' E E',(∀d g,Q d g->Q' d g)->(∀x g,E x g->E' x g)->P f xs g Q E->P f xs g Q' E'
mutual
theorem b7{P:eG}(hP:i0 P):∀(e:ME) (Z:S) (g:G) (Q Q':KD) (E E':KX),(∀d g,Q d g->Q' d g)->(∀x g,E x g->E' x g)->aP P e Z g Q E->aP P e Z g Q' E'
 |.var i,Z,g,Q,Q',E,E',h,hx,q=>by
  obtain⟨d,a,b⟩:=q;exact⟨d,a,h _ _ b⟩
 |.lit d,Z,g,Q,Q',E,E',h,hx,q=>by exact h _ _ q
 |.prim p es,Z,g,Q,Q',E,E',h,hx,q=>by
  exact s9 hP es _ _ _ _ _ _ (λxs g1 q=>n6 h q) hx q
 |.dS p o es,Z,g,Q,Q',E,E',h,hx,q=>by
  exact b7 hP o _ _ _ _ _ _ (λx g1 q=>⟨q.1,s9 hP es _ _ _ _ _ _ (λxs g2 q=>n6 h q) hx q.2⟩) hx q
 |.lR es,Z,g,Q,Q',E,E',h,hx,q=>by
  exact s9 hP es _ _ _ _ _ _ (λxs g1 ⟨kvs,a,b,c,d⟩=>⟨kvs,a,b,c,h _ _ d⟩) hx q
 |.chain o1 o2 a b c,Z,g,Q,Q',E,E',h,hx,q=>by
  refine b7 hP a _ _ _ _ _ _ (λx g1 q=>b7 hP b _ _ _ _ _ _ (λy g2 q=>n6 (λz g3 q=>?_) q) hx q) hx q;obtain⟨t,e,q⟩:=q;exact⟨t,e,E5 (λq=>b7 hP c _ _ _ _ _ _ (λw g4 q=>n6 h q) hx q) (h _ _) q⟩
 |.dk a b,Z,g,Q,Q',E,E',h,hx,q=>by
  refine b7 hP a _ _ _ _ _ _ (λx g1 q=>?_) hx q;obtain⟨t,e,q⟩:=q;exact⟨t,e,E5 (λq=>b7 hP b _ _ _ _ _ _ h hx q) (h _ _) q⟩
 |.gK a b,Z,g,Q,Q',E,E',h,hx,q=>by
  refine b7 hP a _ _ _ _ _ _ (λx g1 q=>?_) hx q;obtain⟨t,e,q⟩:=q;exact⟨t,e,E5 (h _ _) (λq=>b7 hP b _ _ _ _ _ _ h hx q) q⟩
 |.cJ a,Z,g,Q,Q',E,E',h,hx,q=>by
  refine b7 hP a _ _ _ _ _ _ (λx g1 q=>?_) hx q;obtain⟨t,e,q⟩:=q;exact⟨t,e,h _ _ q⟩
 |.ite c a b,Z,g,Q,Q',E,E',h,hx,q=>by
  exact k8 hP c _ _ _ _ _ _ (λt g1 q=>E5 (λq=>b7 hP a _ _ _ _ _ _ h hx q) (λq=>b7 hP b _ _ _ _ _ _ h hx q) q) hx q
 |.call f es,Z,g,Q,Q',E,E',h,hx,q=>by
  exact s9 hP es _ _ _ _ _ _ (λxs g1 q=>hP _ _ _ _ _ _ _ h hx q) hx q
 |.make c f es,Z,g,Q,Q',E,E',h,hx,q=>by
  exact s9 hP es _ _ _ _ _ _ (λxs g1 q=>hP _ _ _ _ _ _ _ (λd g2 q=>⟨q.1,h _ _ q.2⟩) hx q) hx q
 |.bp m cs o es,Z,g,Q,Q',E,E',h,hx,q=>by
  refine b7 hP o _ _ _ _ _ _ (λx g1 q=>?_) hx q;obtain⟨a,c,fs,f,q1,q2,q3,q4,q⟩:=q;exact⟨a,c,fs,f,q1,q2,q3,q4,s9 hP es _ _ _ _ _ _ (λxs g2 q=>hP _ _ _ _ _ _ _ h hx q) hx q⟩
 |.comp d0 n tg it cond elt,Z,g,Q,Q',E,E',h,hx,q=>by
  exact v5 hP it _ _ _ _ _ _ (λk g1 q=>Ec (λys g q=>h _ _ q) (λ_ _ _ _ q=>q) q) hx q
 |.jh d0 n tg it cond elt,Z,g,Q,Q',E,E',h,hx,q=>by
  exact v5 hP it _ _ _ _ _ _ (λk g1 q=>Ec (λys g q=>h _ _ q) (λx N Z g q=>v7 (λcw q=>k8 hP cond _ _ _ _ _ _ (λb g3 q=>by
   cases b
   ·exact q
   ·exact b7 hP elt _ _ _ _ _ _ (λ_ _ z=>z) hx q) (λ_ _ z=>z) q) q) q) hx q
 |.gb d0 n tg it cond elt,Z,g,Q,Q',E,E',h,hx,q=>by
  exact v5 hP it _ _ _ _ _ _ (λk g1 q=>UZ (λys g q=>h _ _ q) (λ_ _ _ _ q=>q) q) hx q
 |.nil,Z,g,Q,Q',E,E',h,hx,q=>(show False from q).elim
 |.cons _ _,Z,g,Q,Q',E,E',h,hx,q=>(show False from q).elim
 |.ei _,Z,g,Q,Q',E,E',h,hx,q=>(show False from q).elim
 |.fc _,Z,g,Q,Q',E,E',h,hx,q=>(show False from q).elim
 |.iq _ _,Z,g,Q,Q',E,E',h,hx,q=>(show False from q).elim
 |.jC _,Z,g,Q,Q',E,E',h,hx,q|.mq _,Z,g,Q,Q',E,E',h,hx,q=>(show False from q).elim
 |.dA _,Z,g,Q,Q',E,E',h,hx,q=>(show False from q).elim
 |.no,Z,g,Q,Q',E,E',h,hx,q=>(show False from q).elim
theorem s9{P:eG}(hP:i0 P):∀(e:ME) (Z:S) (g:G) (Q Q':List D->G->Prop) (E E':KX),(∀d g,Q d g->Q' d g)->(∀x g,E x g->E' x g)->eJ P e Z g Q E->eJ P e Z g Q' E'
 |.nil,Z,g,Q,Q',E,E',h,hx,q=>by exact h _ _ q
 |.cons a b,Z,g,Q,Q',E,E',h,hx,q=>by
  exact b7 hP a _ _ _ _ _ _ (λx g1 q=>s9 hP b _ _ _ _ _ _ (λxs g2 q=>h _ _ q) hx q) hx q
 |.var _,Z,g,Q,Q',E,E',h,hx,q|.lit _,Z,g,Q,Q',E,E',h,hx,q|.prim _ _,Z,g,Q,Q',E,E',h,hx,q|.dS _ _ _,Z,g,Q,Q',E,E',h,hx,q|.lR _,Z,g,Q,Q',E,E',h,hx,q|.chain _ _ _ _ _,Z,g,Q,Q',E,E',h,hx,q|.dk _ _,Z,g,Q,Q',E,E',h,hx,q|.gK _ _,Z,g,Q,Q',E,E',h,hx,q|.cJ _,Z,g,Q,Q',E,E',h,hx,q|.ite _ _ _,Z,g,Q,Q',E,E',h,hx,q|.call _ _,Z,g,Q,Q',E,E',h,hx,q
 |.make _ _ _,Z,g,Q,Q',E,E',h,hx,q|.bp _ _ _ _,Z,g,Q,Q',E,E',h,hx,q|.comp _ _ _ _ _ _,Z,g,Q,Q',E,E',h,hx,q|.gb _ _ _ _ _ _,Z,g,Q,Q',E,E',h,hx,q|.jh _ _ _ _ _ _,Z,g,Q,Q',E,E',h,hx,q|.ei _,Z,g,Q,Q',E,E',h,hx,q|.fc _,Z,g,Q,Q',E,E',h,hx,q|.iq _ _,Z,g,Q,Q',E,E',h,hx,q|.jC _,Z,g,Q,Q',E,E',h,hx,q|.mq _,Z,g,Q,Q',E,E',h,hx,q|.dA _,Z,g,Q,Q',E,E',h,hx,q|.no,Z,g,Q,Q',E,E',h,hx,q=>(show False from q).elim
theorem k8{P:eG}(hP:i0 P):∀(e:ME) (Z:S) (g:G) (Q Q':Bool->G->Prop) (E E':KX),(∀d g,Q d g->Q' d g)->(∀x g,E x g->E' x g)->da P e Z g Q E->da P e Z g Q' E'
 |.dk a b,Z,g,Q,Q',E,E',h,hx,q=>by
  exact k8 hP a _ _ _ _ _ _ (λt g1 q=>E5 (λq=>k8 hP b _ _ _ _ _ _ h hx q) (h _ _) q) hx q
 |.gK a b,Z,g,Q,Q',E,E',h,hx,q=>by
  exact k8 hP a _ _ _ _ _ _ (λt g1 q=>E5 (h _ _) (λq=>k8 hP b _ _ _ _ _ _ h hx q) q) hx q
 |.cJ a,Z,g,Q,Q',E,E',h,hx,q=>by exact k8 hP a _ _ _ _ _ _ (λt g1 q=>h _ _ q) hx q
 |.no,Z,g,Q,Q',E,E',h,hx,q=>by exact h _ _ q
 |.dA e,Z,g,Q,Q',E,E',h,hx,q=>by exact b7 hP e _ _ _ _ _ _ (λx g1 q=>Tn (λb q=>h _ _ q) q) hx q
 |.var _,Z,g,Q,Q',E,E',h,hx,q|.lit _,Z,g,Q,Q',E,E',h,hx,q|.prim _ _,Z,g,Q,Q',E,E',h,hx,q|.dS _ _ _,Z,g,Q,Q',E,E',h,hx,q|.lR _,Z,g,Q,Q',E,E',h,hx,q|.chain _ _ _ _ _,Z,g,Q,Q',E,E',h,hx,q|.ite _ _ _,Z,g,Q,Q',E,E',h,hx,q|.call _ _,Z,g,Q,Q',E,E',h,hx,q|.nil,Z,g,Q,Q',E,E',h,hx,q|.cons _ _,Z,g,Q,Q',E,E',h,hx,q
 |.make _ _ _,Z,g,Q,Q',E,E',h,hx,q|.bp _ _ _ _,Z,g,Q,Q',E,E',h,hx,q|.comp _ _ _ _ _ _,Z,g,Q,Q',E,E',h,hx,q|.gb _ _ _ _ _ _,Z,g,Q,Q',E,E',h,hx,q|.jh _ _ _ _ _ _,Z,g,Q,Q',E,E',h,hx,q|.ei _,Z,g,Q,Q',E,E',h,hx,q|.fc _,Z,g,Q,Q',E,E',h,hx,q|.iq _ _,Z,g,Q,Q',E,E',h,hx,q|.jC _,Z,g,Q,Q',E,E',h,hx,q|.mq _,Z,g,Q,Q',E,E',h,hx,q=>(show False from q).elim
theorem v5{P:eG}(hP:i0 P):∀(e:ME) (Z:S) (g:G) (Q Q':IK->G->Prop) (E E':KX),(∀d g,Q d g->Q' d g)->(∀x g,E x g->E' x g)->fZ P e Z g Q E->fZ P e Z g Q' E'
 |.ei e,Z,g,Q,Q',E,E',h,hx,q=>by
  exact b7 hP e _ _ _ _ _ _ (λx g1 q=>q.imp (λ⟨l,a,b⟩=>⟨l,a,h _ _ b⟩) λ⟨i,l,a,b,c⟩=>⟨i,l,a,b,h _ _ c⟩) hx q
 |.fc a,Z,g,Q,Q',E,E',h,hx,q=>by
  exact b7 hP a _ _ _ _ _ _ (λx g1 ⟨j,a,b,c,d⟩=>⟨j,a,b,c,h _ _ d⟩) hx q
 |.iq a b,Z,g,Q,Q',E,E',h,hx,q=>by
  exact b7 hP a _ _ _ _ _ _ (λx g1 q=>b7 hP b _ _ _ _ _ _ (λy g2 ⟨i,j,a,b,c,d⟩=>⟨i,j,a,b,c,h _ _ d⟩) hx q) hx q
 |.jC e,Z,g,Q,Q',E,E',h,hx,q=>by
  exact b7 hP e _ _ _ _ _ _ (λx g1 ⟨i,l,a,b,c⟩=>⟨i,l,a,b,h _ _ c⟩) hx q
 |.mq e,Z,g,Q,Q',E,E',h,hx,q=>by
  exact b7 hP e _ _ _ _ _ _ (λx g1 ⟨i,l,a,b,c⟩=>⟨i,l,a,b,h _ _ c⟩) hx q
 |.var _,Z,g,Q,Q',E,E',h,hx,q|.lit _,Z,g,Q,Q',E,E',h,hx,q|.prim _ _,Z,g,Q,Q',E,E',h,hx,q|.dS _ _ _,Z,g,Q,Q',E,E',h,hx,q|.lR _,Z,g,Q,Q',E,E',h,hx,q|.chain _ _ _ _ _,Z,g,Q,Q',E,E',h,hx,q|.ite _ _ _,Z,g,Q,Q',E,E',h,hx,q|.call _ _,Z,g,Q,Q',E,E',h,hx,q|.nil,Z,g,Q,Q',E,E',h,hx,q|.cons _ _,Z,g,Q,Q',E,E',h,hx,q
 |.dk _ _,Z,g,Q,Q',E,E',h,hx,q|.gK _ _,Z,g,Q,Q',E,E',h,hx,q|.cJ _,Z,g,Q,Q',E,E',h,hx,q|.dA _,Z,g,Q,Q',E,E',h,hx,q|.no,Z,g,Q,Q',E,E',h,hx,q
 |.make _ _ _,Z,g,Q,Q',E,E',h,hx,q|.bp _ _ _ _,Z,g,Q,Q',E,E',h,hx,q|.comp _ _ _ _ _ _,Z,g,Q,Q',E,E',h,hx,q|.gb _ _ _ _ _ _,Z,g,Q,Q',E,E',h,hx,q|.jh _ _ _ _ _ _,Z,g,Q,Q',E,E',h,hx,q=>(show False from q).elim
end
structure Ends.le(N N':Ends):Prop where
 nx:∀Z g,N.nx Z g->N'.nx Z g
 rt:∀d g,N.rt d g->N'.rt d g
 bk:∀Z g,N.bk Z g->N'.bk Z g
 ct:∀Z g,N.ct Z g->N'.ct Z g
theorem CS{P:eG}(hP:i0 P){N N':Ends}{E E':KX}(h:N.le N')(hx:∀x g,E x g->E' x g){Z:S}:∀(hs:List (Str×ME)) x g,jJ P N Z E hs x g->jJ P N' Z E' hs x g
 |[],x,g,q=>hx x g q
 |(y,e)::r,x,g,q=>by
  unfold jJ at q ⊢;split
  ·rename_i hh;rw[aJ hh] at q;exact b7 hP e _ _ _ _ _ _ h.rt (λ_ _ z=>z) q
  ·rename_i hh;rw[aB hh] at q;exact CS hP h hx r x g q
theorem wpS_mono{P:eG}(hP:i0 P):∀(s:MS) (N N':Ends) (Z:S) (g:G) (E E':KX),N.le N'->(∀x g,E x g->E' x g)->wpS P s N Z g E->wpS P s N' Z g E'
 |.pass,N,N',Z,g,E,E',h,hx,q=>h.nx _ _ q
 |.seq a b,N,N',Z,g,E,E',h,hx,q=>wpS_mono hP a { N with nx:=λgP g1=>wpS P b N gP g1 E } { N' with nx:=λgP g1=>wpS P b N' gP g1 E' } _ _ _ _ ⟨λgP g1 q=>wpS_mono hP b _ _ _ _ _ _ h hx q,h.rt,h.bk,h.ct⟩ hx q
 |.expr e,N,N',Z,g,E,E',h,hx,q=>b7 hP e _ _ _ _ _ _ (λx g1 q=>h.nx _ _ q) hx q
 |.set i e,N,N',Z,g,E,E',h,hx,q=>b7 hP e _ _ _ _ _ _ (λx g1 q=>h.nx _ _ q) hx q
 |.kJ t e,N,N',Z,g,E,E',h,hx,q=>b7 hP e _ _ _ _ _ _ (λx g1 q=>v7 (λZ q=>h.nx _ _ q) q) hx q
 |.cF o i v,N,N',Z,g,E,E',h,hx,q=>b7 hP v _ _ _ _ _ _ (λx g1 q=>b7 hP o _ _ _ _ _ _ (λy g2 q=>b7 hP i _ _ _ _ _ _ (λz g3 q=>S4 (λg q=>h.nx _ _ q) q) hx q) hx q) hx q
 |.fk f cs o v,N,N',Z,g,E,E',h,hx,q=>b7 hP v _ _ _ _ _ _ (λx g1 q=>b7 hP o _ _ _ _ _ _ (λy g2 q=>Um (λg q=>h.nx _ _ q) q) hx q) hx q
 | .jo f cs o v,N,N',Z,g,E,E',h,hx,q=>b7 hP o _ _ _ _ _ _ (λy g1 q=>by
   obtain⟨a,c,fs,x,q1,q2,q3,q4,q⟩:=q;exact ⟨a,c,fs,x,q1,q2,q3,q4,b7 hP v _ _ _ _ _ _ (λz g3 q=>n6 (λw g4 q=>by
    obtain⟨ia,k1,k2,k3⟩:=q;exact ⟨ia,k1,k2,h.nx _ _ k3⟩) q) hx q⟩) hx q
 |.tN o1 i1 o2 i2 e,N,N',Z,g,E,E',h,hx,q=>b7 hP e _ _ _ _ _ _ (λx g1 q=>let ⟨u,v,q1,q⟩:=q;⟨u,v,q1,b7 hP o1 _ _ _ _ _ _ (λy g2 q=>b7 hP i1 _ _ _ _ _ _ (λz g3 q=>S4 (λg4 q=>b7 hP o2 _ _ _ _ _ _ (λy g5 q=>b7 hP i2 _ _ _ _ _ _ (λz g6 q=>S4 (λg q=>h.nx _ _ q) q) hx q) hx q) q) hx q) hx q⟩) hx q
 |.iR i p v,N,N',Z,g,E,E',h,hx,q=>let ⟨x,q1,q⟩:=q;⟨x,q1,b7 hP v _ _ _ _ _ _ (λz g1 q=>n6 (λw g2 q=>h.nx _ _ q) q) hx q⟩
 |.ifs c a b,N,N',Z,g,E,E',h,hx,q=>k8 hP c _ _ _ _ _ _ (λt g1 q=>E5 (λq=>wpS_mono hP a _ _ _ _ _ _ h hx q) (λq=>wpS_mono hP b _ _ _ _ _ _ h hx q) q) hx q
 |.dU t it b,N,N',Z,g,E,E',h,hx,q=>v5 hP it _ _ _ _ _ _ (λk g1 q=>Uu h.nx (λx N2 Z g q=>v7 (λcw q=>wpS_mono hP b { N with nx:=N2,ct:=N2,bk:=N.nx } { N' with nx:=N2,ct:=N2,bk:=N'.nx } _ _ _ _ ⟨λ_ _ z=>z,h.rt,h.nx,λ_ _ z=>z⟩ hx q) q) q) hx q
 |.ij c b,N,N',Z,g,E,E',h,hx,q=>by
  obtain⟨W,w0,q⟩:=q;refine⟨W,w0,λm Z g w=>k8 hP c _ _ _ _ _ _ (λt g1 q=>E5 (λq=>?_) (h.nx _ _) q) hx (q m Z g w)⟩;obtain⟨N2,a,q⟩:=q;exact⟨N2,a,wpS_mono hP b { N with nx:=N2,ct:=N2,bk:=N.nx } { N' with nx:=N2,ct:=N2,bk:=N'.nx } _ _ _ _ ⟨λ_ _ z=>z,h.rt,h.nx,λ_ _ z=>z⟩ hx q⟩
 |.ret e,N,N',Z,g,E,E',h,hx,q=>b7 hP e _ _ _ _ _ _ h.rt hx q
 |.nN,N,N',Z,g,E,E',h,hx,q=>h.rt _ _ q
 |.brk,N,N',Z,g,E,E',h,hx,q=>h.bk _ _ q
 |.cont,N,N',Z,g,E,E',h,hx,q=>h.ct _ _ q
 |.raise x es,N,N',Z,g,E,E',h,hx,q=>s9 hP es _ _ _ _ _ _ (λvs g1 q=>⟨q.1,hx _ _ q.2⟩) hx q
 |.W7 b hs,N,N',Z,g,E,E',h,hx,q=>wpS_mono hP b _ _ _ _ _ _ h (λx g q=>CS hP h hx hs x g q) q
theorem a9(T:Nat->Option aM):∀k,i0 (b0 T k)
 |0=>λf xs g Q Q' E E' h hx q=>q.elim
 |k+1=>λf xs g Q Q' E E' h hx q=>by
  obtain⟨m,a,b,q⟩:=q;exact⟨m,a,b,wpS_mono (a9 T k) m.body ⟨λ_ g'=>Q .aX g',Q,λ_ _=>False,λ_ _=>False⟩ _ _ _ _ _ ⟨λ_ _ z=>h _ _ z,h,λ_ _ z=>z,λ_ _ z=>z⟩ hx q⟩
def TupAt(K:PySem.W.Frag)(H:Hp)(a:Addr)(vs:List V):Prop :=
 H a=some (.tup vs)\/∃(o:Obj) (aN:Array Value) (n:Nat),K.lookup a=some o/\o.cls=.type "tuple"/\o.dict=none/\o.data=.seq aN n/\aN.size<=sizeLine/\Vals vs aN.toList
theorem TupAt.d(h:TupAt K H a vs):sV K H a vs:=h
theorem TupAt.sq{K:PySem.W.Frag}{H:Hp}{a:Addr}{vs:List V}(h:TupAt K H a vs):gD K H a vs:=h.d.sq
mutual
inductive d6(K:PySem.W.Frag)(ρ:List Addr)(H:Hp):D->V->Prop
 |aX:d6 K ρ H .aX .aX
 |bl (b:Bool):d6 K ρ H (.bl b) (.bl b)
 |int (i:Int):d6 K ρ H (.int i) (.int i)
 |str (x:Str):d6 K ρ H (.str x) (.str x)
 |ty (n:String):d6 K ρ H (.ty n) (.ty n)
 |ref {i:Nat} {a:Addr} (h:ρ[i]?=some a):d6 K ρ H (.ref i) (.ref a)
 |tup {l:List D} {a:Addr} {vs:List V} (h:TupAt K H a vs) (r:b6 K ρ H l vs):d6 K ρ H (.tup l) (.ref a)
inductive b6(K:PySem.W.Frag)(ρ:List Addr)(H:Hp):List D->List V->Prop
 |nil:b6 K ρ H [] []
 |cons {d:D} {v:V} {ds:List D} {vs:List V} (h:d6 K ρ H d v) (r:b6 K ρ H ds vs):b6 K ρ H (d::ds) (v::vs)
end
structure Ext(ρ:List Addr)(H:Hp)(bw:List Addr)(H':Hp):Prop where
 pre:∃more,bw=ρ++more
 tup:∀a xs,H a=some (.tup xs)->H' a=some (.tup xs)
theorem Ext.refl(ρ:List Addr)(H:Hp):Ext ρ H ρ H:=⟨⟨[],by simp⟩,λ_ _ h=>h⟩
theorem Ext.trans{ρ H bB H1 dI H2}(a:Ext ρ H bB H1)(b:Ext bB H1 dI H2):Ext ρ H dI H2:=by
 obtain⟨⟨m,rfl⟩,t⟩:=a;obtain⟨⟨m',rfl⟩,t'⟩:=b;exact⟨⟨m++m',by simp⟩,λx xs h=>t' _ _ (t _ _ h)⟩
theorem Ext.get{ρ H bw H'}(e:Ext ρ H bw H')(h:ρ[i]?=some a):bw[i]?=some a:=by
 obtain⟨⟨m,rfl⟩,_⟩:=e;rw[aE (az.mp h).1];exact h
theorem TupAt.ext{K ρ H bw H'}(e:Ext ρ H bw H')(h:TupAt K H a vs):TupAt K H' a vs:=h.elim (λz=>.inl (e.tup _ _ z)) .inr
mutual
theorem d6.ext{K ρ H bw H'}(e:Ext ρ H bw H'):∀{d v},d6 K ρ H d v->d6 K bw H' d v
 |_,_,.aX=>.aX
 |_,_,.bl b=>.bl b
 |_,_,.int i=>.int i
 |_,_,.str x=>.str x
 |_,_,.ty n=>.ty n
 |_,_,.ref h=>.ref (e.get h)
 |_,_,.tup h r=>.tup (h.ext e) (b6.ext e r)
theorem b6.ext{K ρ H bw H'}(e:Ext ρ H bw H'):∀{ds vs},b6 K ρ H ds vs->b6 K bw H' ds vs
 |_,_,.nil=>.nil
 |_,_,.cons h r=>.cons (d6.ext e h) (b6.ext e r)
end
theorem b6.length{K ρ H}{ds:List D}{vs:List V}(h:b6 K ρ H ds vs):ds.length=vs.length:=by
 induction ds generalizing vs with
 |nil=>cases h;rfl
 |cons d ds ih =>
  cases h with
  |cons q r=>simp[ih r]
theorem b6.get{K ρ H}:∀{ds vs} {i:Nat} {d:D},b6 K ρ H ds vs->ds[i]?=some d->∃v,vs[i]?=some v/\d6 K ρ H d v
 |_,_,_,_,.nil,h=>by simp at h
 |_,_,0,_,.cons h _,e=>by simp at e;subst e;exact⟨_,rfl,h⟩
 |_,_,i+1,d,.cons _ r,e=>by
  obtain⟨v,h1,h2⟩:=b6.get (i:=i) (d:=d) r (by simpa using e);exact⟨v,by simpa using h1,h2⟩
theorem b6.set{K ρ H}{d:D}{v:V}(h:d6 K ρ H d v):∀{ds vs} (i:Nat),b6 K ρ H ds vs->b6 K ρ H (ds.set i d) (vs.set i v)
 |_,_,_,.nil=>.nil
 |_,_,0,.cons _ r=>.cons h r
 |_,_,i+1,.cons q r=>.cons q (b6.set h i r)
theorem b6.append{K ρ H}{ds es:List D}{ws:List V}(h:b6 K ρ H ds vs)(s:b6 K ρ H es ws):b6 K ρ H (ds++es) (vs++ws):=by
 induction ds generalizing vs with
 |nil=>cases h;exact s
 |cons d ds ih =>
  cases h with
  |cons q r=>exact .cons q (ih r)
theorem b6.rep{K ρ H}{ds:List D}{vs:List V}(r:b6 K ρ H ds vs):∀n,b6 K ρ H (List.replicate n ds).flatten (List.replicate n vs).flatten
 |0=>.nil
 |n+1=>by
  rw[bO,bO,cN,cN];exact b6.append r (b6.rep r n)
theorem b6.erase{K ρ H}:∀{ds:List D} {vs:List V} (i:Nat),b6 K ρ H ds vs->b6 K ρ H (ds.eraseIdx i) (vs.eraseIdx i)
 |_,_,_,.nil=>.nil
 |_,_,0,.cons _ r=>r
 |_,_,i+1,.cons q r=>.cons q (b6.erase i r)
theorem b6.take{K ρ H}:∀{ds:List D} {vs:List V} (n:Nat),b6 K ρ H ds vs->b6 K ρ H (ds.take n) (vs.take n)
 |_,_,0,_=>.nil
 |_,_,_+1,.nil=>.nil
 |_,_,n+1,.cons h r=>.cons h (b6.take n r)
theorem b6.drop{K ρ H}:∀{ds:List D} {vs:List V} (n:Nat),b6 K ρ H ds vs->b6 K ρ H (ds.drop n) (vs.drop n)
 |_,_,0,r=>r
 |_,_,_+1,.nil=>.nil
 |_,_,n+1,.cons _ r=>b6.drop n r
theorem b6.reverse{K ρ H}:∀{ds:List D} {vs:List V},b6 K ρ H ds vs->b6 K ρ H ds.reverse vs.reverse
 |_,_,.nil=>.nil
 |_,_,.cons h r=>by
  rw[fT,fT];exact b6.append (b6.reverse r) (.cons h .nil)
theorem b6.cut{K ρ H}{ds:List D}{vs:List V}(r:b6 K ρ H ds vs)(lo hi:Option Int):b6 K ρ H (M.cut ds lo hi) (Q9 vs lo hi):=by
 unfold M.cut Q9;rw[r.length];exact(r.drop _).take _
theorem b6.ints{K ρ H}:∀{ns:List Int} {vs:List V},b6 K ρ H (ns.map D.int) vs->vs=ns.map V.int
 |[],_,.nil=>rfl
 |_::_,_,.cons h r=>by cases h;rw[b6.ints r];rfl
theorem b6.ofInts{K ρ H}:∀(ns:List Int),b6 K ρ H (ns.map D.int) (ns.map V.int)
 |[]=>.nil
 |n::r=>.cons (.int n) (b6.ofInts r)
def pP(K:PySem.W.Frag)(H:Hp)(a:Addr)(vs:List V):Prop :=
 (∃o,H a=some (.iO o (.lst vs)))\/∃(o:Obj) (aN:Array Value) (n:Nat),K.lookup a=some o/\o.cls=.type "list"/\o.dict=none/\o.data=.seq aN n/\aN.size<=sizeLine/\Vals vs aN.toList
theorem pP.sq(h:pP K H a vs):eW K H a vs:=h.elim (λ⟨o,z⟩=>.inl (.inr ⟨o,z⟩)) .inr
inductive i7{α:Type}(K:PySem.W.Frag)(ρ:List Addr)(H:Hp):List (α×D)->List (α×V)->Prop
 |nil:i7 K ρ H [] []
 |cons {k:α} {d:D} {v:V} {ds:List (α×D)} {vs:List (α×V)} (h:d6 K ρ H d v) (r:i7 K ρ H ds vs):i7 K ρ H ((k,d)::ds) ((k,v)::vs)
theorem i7.ext{α:Type}{K ρ H bw H'}(e:Ext ρ H bw H'){ds:List (α×D)}{vs:List (α×V)}(h:i7 K ρ H ds vs):i7 K bw H' ds vs:=by
 induction h with
 |nil=>exact .nil
 |cons h r ih=>exact .cons (h.ext e) ih
theorem i7.length{α:Type}{K ρ H}{ds:List (α×D)}{vs:List (α×V)}(h:i7 K ρ H ds vs):ds.length=vs.length:=by
 induction h with
 |nil=>rfl
 |cons h r ih=>simp[ih]
def Z9(K:PySem.W.Frag)(ρ:List Addr)(H:Hp):Option D->Option V->Prop
 |some d,some v=>d6 K ρ H d v
 |none,none=>True
 |_,_=>False
theorem i7.val{K ρ H}:∀{ds vs} (k:Key),i7 K ρ H ds vs->Z9 K ρ H (L8 ds k) (L7 vs k)
 |_,_,k,.nil=>trivial
 |_,_,k,.cons (k:=k') h r=>by
  unfold L8 L7;rw[gM,gM];by_cases e:k'=k
  ·simp only[e,decide_true];exact h
  ·simp only[e,decide_false];exact i7.val k r
theorem i7.BO{K ρ H}:∀{ds vs} (k:Key),i7 K ρ H ds vs->(ds.any λkv=>decide (kv.1=k))=(vs.any λkv=>decide (kv.1=k))
 |_,_,k,.nil=>rfl
 |_,_,k,.cons h r=>by simp only[List.any_cons,i7.BO k r]
theorem i7.snoc{K ρ H}{k:Key}{d:D}{v:V}(h:d6 K ρ H d v){ds vs}(t:i7 K ρ H ds vs):i7 K ρ H (ds++[(k,d)]) (vs++[(k,v)]):=by
 induction ds generalizing vs with
 |nil=>cases t;exact .cons h .nil
 |cons d ds ih =>
  cases t with
  |cons q r=>exact .cons q (ih r)
theorem i7.zJ{K ρ H}{k:Key}{d:D}{v:V}(h:d6 K ρ H d v):∀{ds vs},i7 K ρ H ds vs->i7 K ρ H (ds.map λkv=>if kv.1=k then(kv.1,d) else kv) (vs.map λkv=>if kv.1=k then(kv.1,v) else kv)
 |_,_,.nil=>.nil
 |_,_,.cons (k:=k') q r=>by
  simp only[List.map_cons];by_cases e:k'=k
  ·rw[aJ e,aJ e];exact .cons h (i7.zJ h r)
  ·rw[aB e,aB e];exact .cons q (i7.zJ h r)
theorem i7.put{K ρ H}{k:Key}{d:D}{v:V}(h:d6 K ρ H d v){ds vs}(r:i7 K ρ H ds vs):i7 K ρ H (putD ds k d) (putK vs k v):=by
 unfold putD putK;rw[r.BO k];split
 ·exact r.zJ h
 ·exact r.snoc h
noncomputable abbrev m7(K:PySem.W.Frag)(x:Str)(C:Addr):Prop:=PySem.W.nsIn K mainGlobals x=some (some (.ref C))
theorem i7.look{K ρ H}{ds:List (Str×D)}{vs:List (Str×V)}(f:Str)(h:i7 K ρ H ds vs):Z9 K ρ H (ds.lookup f) (vs.lookup f):=by
 induction h with
 |nil=>trivial
 |cons h r ih =>
  rename_i k d v ds vs;rw[cv,cv];cases f==k
  ·exact ih
  ·exact h
theorem i7.p8{K ρ H}{f:Str}{d:D}{v:V}(h:d6 K ρ H d v){ds:List (Str×D)}{vs:List (Str×V)}(r:i7 K ρ H ds vs):i7 K ρ H (x8 f d ds) (L2.p8 f v vs):=by
 induction r with
 |nil=>exact .cons h .nil
 |cons q r ih =>
  unfold x8 L2.p8;split
  ·exact .cons h r
  ·exact .cons q ih
theorem X4{f:Str}{d:D}{p:Str->Prop}(hf:p f):∀{ds:List (Str×D)},(∀x∈ds,p x.1)->∀x∈x8 f d ds,p x.1
 |[],_,x,hx=>by
  have:x=(f,d):=by simpa[x8] using hx
  rw[this];exact hf
 |(k,e)::r,h,x,hx=>by
  unfold x8 at hx;split at hx
  ·rcases ay.mp hx with z|z
   ·rw[z];exact h (k,e) (by simp)
   ·exact h x (by simp[z])
  ·rcases ay.mp hx with z|z
   ·rw[z];exact h (k,e) (by simp)
   ·exact X4 hf (λy hy=>h y (by simp[hy])) x z
def OH(K:PySem.W.Frag)(ρ:List Addr)(H:Hp):O->HO->Prop
 |.lst l,.lst vs=>b6 K ρ H l vs
 |.bX kvs,.dK vs=>i7 K ρ H kvs vs
 |.set S n,.set S' n'=>S=S'/\n=n'
 |.ins c fs,.ins C _ vs=>m7 K c C/\ie K C/\i7 K ρ H fs vs/\∀x∈fs,u6 K C x.1
 |_,_=>False
theorem OH.ext{K ρ H bw H'}(e:Ext ρ H bw H'){o:O}{u:HO}(h:OH K ρ H o u):OH K bw H' o u:=by
 cases o<;>cases u<;>first|exact h.elim|exact b6.ext e h|exact i7.ext e h|exact⟨h.1,h.2.1,h.2.2.1.ext e,h.2.2.2⟩|exact h
theorem OH.pX{K ρ H}{xs:List V}(h:OH K ρ H o (.tup xs)):False:=by cases o<;>exact h
theorem OH.Qa{K ρ H}{ob:Obj}(h:OH K ρ H o (.iO ob u)):False:=by cases o<;>exact h
def F7(K:PySem.W.Frag)(ρ:List Addr)(H:Hp)(o:O)(a:Addr):Prop:=match o with
 |.mI l=>∃vs,pP K H a vs/\b6 K ρ H l vs
 |o=>∃u,H a=some u/\OH K ρ H o u
theorem F7.of{K ρ H}(hu:H a=some u)(h:OH K ρ H o u):F7 K ρ H o a:=by
 cases o<;>first|exact⟨u,hu,h⟩|(cases u<;>exact h.elim)
theorem F7.inv{K ρ H}(m:o.mut=true)(h:F7 K ρ H o a):∃u,H a=some u/\OH K ρ H o u:=by
 cases o<;>first|exact h|cases m
theorem F7.lst{K ρ H}{l:List D}{a:Addr}(h:F7 K ρ H (.lst l) a):∃vs,H a=some (.lst vs)/\b6 K ρ H l vs:=by
 obtain⟨u,h1,h2⟩:=h;cases u<;>first|exact⟨_,h1,h2⟩|exact h2.elim
theorem F7.bX{K ρ H}{l:List (Key×D)}{a:Addr}(h:F7 K ρ H (.bX l) a):∃vs,H a=some (.dK vs)/\i7 K ρ H l vs:=by
 obtain⟨u,h1,h2⟩:=h;cases u<;>first|exact⟨_,h1,h2⟩|exact h2.elim
theorem F7.set{K ρ H}{S:Int->Bool}{n:Nat}{a:Addr}(h:F7 K ρ H (.set S n) a):H a=some (.set S n):=by
 obtain⟨u,h1,h2⟩:=h;cases u<;>first|(obtain⟨rfl,rfl⟩:=(show _/\_ from h2);exact h1)|exact h2.elim
theorem F7.ins{K ρ H}{c:Str}{fs:List (Str×D)}{a:Addr}(h:F7 K ρ H (.ins c fs) a):∃C dx vs,H a=some (.ins C dx vs)/\m7 K c C/\ie K C/\i7 K ρ H fs vs/\∀x∈fs,u6 K C x.1:=by
 obtain⟨u,h1,h2⟩:=h;cases u<;>first|exact⟨_,_,_,h1,h2⟩|exact h2.elim
structure Rl(K:PySem.W.Frag)(ρ:List Addr)(g:G)(H:Hp):Prop where
 len:ρ.length=g.length
 obj:∀(i:Nat) o a,g[i]?=some o->ρ[i]?=some a->F7 K ρ H o a
 nd:∀(i j:Nat) o o' a,g[i]?=some o->g[j]?=some o'->o.mut=true->o'.mut=true->ρ[i]?=some a->ρ[j]?=some a->i=j
section
variable{ρ:List Addr}
theorem Rl.lst(R:Rl K ρ g H){i:Nat}{l:List D}{a:Addr}(h:g[i]?=some (.lst l))(ha:ρ[i]?=some a):∃vs,H a=some (.lst vs)/\b6 K ρ H l vs:=(R.obj _ _ _ h ha).lst
theorem Rl.bX(R:Rl K ρ g H){i:Nat}{l:List (Key×D)}{a:Addr}(h:g[i]?=some (.bX l))(ha:ρ[i]?=some a):∃vs,H a=some (.dK vs)/\i7 K ρ H l vs:=(R.obj _ _ _ h ha).bX
theorem Rl.set(R:Rl K ρ g H){i:Nat}{S:Int->Bool}{n:Nat}{a:Addr}(h:g[i]?=some (.set S n))(ha:ρ[i]?=some a):H a=some (.set S n):=(R.obj _ _ _ h ha).set
theorem Rl.ins(R:Rl K ρ g H){i:Nat}{c:Str}{fs:List (Str×D)}{a:Addr}(h:g[i]?=some (.ins c fs))(ha:ρ[i]?=some a):∃C dx vs,H a=some (.ins C dx vs)/\m7 K c C/\ie K C/\i7 K ρ H fs vs/\∀x∈fs,u6 K C x.1:=(R.obj _ _ _ h ha).ins
theorem Rl.items(R:Rl K ρ g H)(h:c8 g i=some l)(ha:ρ[i]?=some a):∃vs,eW K H a vs/\b6 K ρ H l vs:=by
 cases e:g[i]? with
 |none=>rw[c8,e] at h;cases h
 |some o =>
  rw[c8,e] at h;have q:=R.obj _ _ _ e ha;cases o with
  |lst m=>cases h;obtain⟨vs,z,r⟩:=q.lst;exact⟨vs,eW.of z,r⟩
  |mI m=>cases h;obtain⟨vs,z,r⟩:=q;exact⟨vs,z.sq,r⟩
  |_=>cases h
theorem q9{o:HO}(hp:H p=none):Ext ρ H ρ (upd H p o):=⟨⟨[],by simp⟩,λa xs h=>by rw[f7 (j6 h hp)];exact h⟩
theorem pP.upd{p a:Addr}{o:HO}{vs:List V}(h:pP K H a vs)(hp:∀ob u,H p≠some (.iO ob u)):pP K (upd H p o) a vs:=by
 rcases h with⟨ob,z⟩|z
 ·refine .inl ⟨ob,?_⟩;rw[f7 ?_]
  ·exact z
  ·intro e;subst e;exact hp _ _ z
 ·exact .inr z
theorem F7.upd{p a:Addr}{o:O}{u:HO}{bw:List Addr}(h:F7 K ρ H o a)(eA:o.mut=true->a≠p)(hp:∀ob u,H p≠some (.iO ob u))(e:Ext ρ H bw (L2.upd H p u)):F7 K bw (L2.upd H p u) o a:=by
 cases hm:o.mut with
 |true =>
  obtain⟨u',h1,h2⟩:=h.inv hm;exact .of (by rw[f7 (eA hm)];exact h1) (h2.ext e)
 |false =>
  cases o<;>first|cases hm|skip
  obtain⟨vs,z,r⟩:=h;exact⟨vs,z.upd hp,r.ext e⟩
theorem Rl.grow{o:HO}(R:Rl K ρ g H)(hp:H p=none):Rl K ρ g (upd H p o):=by
 have e:Ext ρ H ρ (upd H p o):=q9 hp;refine⟨R.len,λi ob a h1 h2=>?_,R.nd⟩;have q:=R.obj _ _ _ h1 h2;refine q.upd (λhm=>?_) (λob u z=>by rw[hp] at z;cases z) e;obtain⟨u,h1,_⟩:=q.inv hm;exact j6 h1 hp
theorem Rl.t6(R:Rl K ρ g H)(p:Addr):(ρ++[p])[g.length]?=some p:=by rw[<- R.len];simp
theorem A7{o:HO}(hp:H p=none):Ext ρ H (ρ++[p]) (upd H p o):=⟨⟨[p],rfl⟩,(q9 (ρ:=ρ) hp).tup⟩
theorem Rl.new(R:Rl K ρ g H)(hp:H p=none)(r:OH K ρ H o u):Rl K (ρ++[p]) (g++[o]) (upd H p u):=by
 have e:Ext ρ H (ρ++[p]) (upd H p u):=A7 hp;have old:∀{i:Nat} {ob:O} {a:Addr},g[i]?=some ob->(ρ++[p])[i]?=some a->ρ[i]?=some a:=λ{i ob a} h1 h2=>by
  rw[aE (by rw[R.len];exact(az.mp h1).1)] at h2;exact h2
 have split:∀{i:Nat} {ob:O},(g++[o])[i]?=some ob->g[i]?=some ob\/(i=g.length/\ob=o):=λ{i ob} h=>by
  rcases jy i g.length with q|q|q
  ·rw[aE q] at h;exact .inl h
  ·subst q;simp at h;exact .inr ⟨rfl,h.symm⟩
  ·rw[eM (by simp;omega)] at h;cases h
 refine⟨by simp[R.len],λi ob a h1 h2=>?_,λi j o1 o2 a h1 h2 m1 m2 h3 h4=>?_⟩
 ·rcases split h1 with q|⟨rfl,rfl⟩
  ·have z:=R.obj _ _ _ q (old q h2);refine z.upd (λhm=>?_) (λob u z=>by rw[hp] at z;cases z) e;obtain⟨u,h1,_⟩:=z.inv hm;exact j6 h1 hp
  ·rw[R.t6] at h2;cases h2;exact .of m6 (r.ext e)
 ·have nq:∀{i:Nat} {o:O} {a:Addr},g[i]?=some o->o.mut=true->ρ[i]?=some a->a≠p:=λ{i o a} h1 hm h2=>by
   obtain⟨u,z,_⟩:=(R.obj _ _ _ h1 h2).inv hm;exact j6 z hp
  rcases split h1 with q|⟨rfl,_⟩
  ·rcases split h2 with q'|⟨rfl,_⟩
   ·exact R.nd _ _ _ _ _ q q' m1 m2 (old q h3) (old q' h4)
   ·rw[R.t6] at h4;cases h4;exact absurd rfl (nq q m1 (old q h3))
  ·rcases split h2 with q'|⟨rfl,_⟩
   ·rw[R.t6] at h3;cases h3;exact absurd rfl (nq q' m2 (old q' h4))
   ·rfl
theorem Rl.alloc(R:Rl K ρ g H)(hp:H p=none)(r:b6 K ρ H l vs):Rl K (ρ++[p]) (g++[.lst l]) (upd H p (.lst vs)):=R.new hp r
theorem Rl.put{o':O}(R:Rl K ρ g H)(h:g[i]?=some o)(hm:o.mut=true)(ha:ρ[i]?=some a)(r:OH K ρ H o' u) :
  Rl K ρ (g.set i o') (upd H a u)/\Ext ρ H ρ (upd H a u):=by
 obtain⟨u0,z0,AA⟩:=(R.obj _ _ _ h ha).inv hm;have e:Ext ρ H ρ (upd H a u):=⟨⟨[],by simp⟩,λb xs q=>by rw[f7];exact q;intro z;subst z;rw[z0] at q;cases q;exact AA.pX⟩
 refine⟨⟨by simp[R.len],λj ob b h1 h2=>?_,λj k o1 o2 b h1 h2 m1 m2 h3 h4=>?_⟩,e⟩
 ·by_cases hZ:i=j
  ·subst hZ;rw[ha] at h2;cases h2;have hi:i<g.length:=(az.mp h).1;rw[aU hi] at h1;cases h1;exact .of m6 (r.ext e)
  ·rw[aK hZ] at h1;refine(R.obj _ _ _ h1 h2).upd (λlb ez=>?_) (λob u z=>by rw[z0] at z;cases z;exact AA.Qa) e;subst ez;exact hZ (R.nd _ _ _ _ _ h h1 hm lb ha h2)
 ·have back:∀{j:Nat} {m:O},(g.set i o')[j]?=some m->m.mut=true->∃m',g[j]?=some m'/\m'.mut=true:=λ{j m} q lb=>by
   by_cases hZ:i=j
   ·subst hZ;exact⟨o,h,hm⟩
   ·rw[aK hZ] at q;exact⟨m,q,lb⟩
  obtain⟨_,q1,n1⟩:=back h1 m1;obtain⟨_,q2,n2⟩:=back h2 m2;exact R.nd _ _ _ _ _ q1 q2 n1 n2 h3 h4
theorem Rl.write{l':List D}(R:Rl K ρ g H)(h:g[i]?=some (.lst l))(ha:ρ[i]?=some a)(r:b6 K ρ H l' vs) :
  Rl K ρ (g.set i (.lst l')) (upd H a (.lst vs))/\Ext ρ H ρ (upd H a (.lst vs)):=R.put h rfl ha r
end
structure k7(K:PySem.W.Frag)(ρ:List Addr)(H:Hp)(Z:S)(bC:St):Prop where
 len:Z.length=bC.length
 val:∀(i:Nat) d,Z[i]?=some (some d)->∃v,bC[i]?=some (some v)/\d6 K ρ H d v
section
variable{ρ bw:List Addr}{H':Hp}
theorem k7.ext{Z bC}(e:Ext ρ H bw H')(r:k7 K ρ H Z bC):k7 K bw H' Z bC:=⟨r.len,λi d h=>let ⟨v,a,b⟩:=r.val i d h;⟨v,a,b.ext e⟩⟩
theorem k7.set{Z bC d v}(r:k7 K ρ H Z bC)(i:Nat)(h:d6 K ρ H d v):k7 K ρ H (Z.set i (some d)) (bC.set i (some v)):=by
 refine⟨by simp[r.len],λj e q=>?_⟩;by_cases hZ:i=j
 ·subst hZ;have hi:i<Z.length:=by
   have:=(az.mp q).1;simpa using this
  rw[aU hi] at q;cases q;exact⟨v,by rw[aU (by rw[<- r.len];exact hi)],h⟩
 ·rw[aK hZ] at q ⊢;exact r.val j e q
theorem k7.start{ds vs}{n:Nat}(r:b6 K ρ H ds vs):k7 K ρ H (ds.map some++List.replicate (n-ds.length) none) (vs.map some++List.replicate (n-vs.length) none):=by
 refine⟨by simp[r.length],λi d h=>?_⟩;by_cases hi:i<ds.length
 ·rw[aE (by simpa using hi),aA] at h;cases e:ds[i]? with
  |none=>rw[e] at h;cases h
  |some x =>
   rw[e] at h;cases h;obtain⟨v,h1,h2⟩:=r.get e;refine⟨v,?_,h2⟩;rw[aE (by rw[av,<- r.length];exact hi),aA,h1]
   rfl
 ·rw[cI (by simpa using hi),cY] at h;split at h<;>cases h
theorem k7.d0{Z bC}(r:k7 K ρ H Z bC)(d0:List Nat)(n:Nat):k7 K ρ H (L1 Z d0 n) (A1 bC d0 n):=by
 refine⟨by simp[L1,A1],λi d h=>?_⟩;unfold L1 at h;unfold A1;by_cases hi:i<d0.length
 ·rw[aE (by simpa using hi),aA,aC hi] at h;rw[aE (by simpa using hi),aA,aC hi];simp only[Option.map_some] at h ⊢;cases e:Z[d0[i]]? with
  |none=>rw[e] at h;cases h
  |some x =>
   rw[e] at h;have hx:x=some d:=aG h;subst hx;obtain⟨v,h1,h2⟩:=r.val _ _ e;exact⟨v,by rw[h1];rfl,h2⟩
 ·rw[cI (by simpa using hi),cY] at h;split at h<;>cases h
end
end M
namespace M
open PySem L2 PySem.Spec PyProof.Rows
variable{g:G}{l:List D}{vs:List V}{b:Bool}{d:D}{X:Cx}{ρ:List Addr}{H:Hp}{Z:L2.St}{s:Shared}{v x:V}
def LQ(K:PySem.W.Frag)(ρ:List Addr)(H:Hp)(Q:VK):KD:=λd g'=>∀bw H' v,Ext ρ H bw H'->Rl K bw g' H'->d6 K bw H' d v->Q v H'
theorem LQ.ext{K ρ H bB H1 Q d g}(e:Ext ρ H bB H1)(h:LQ K ρ H Q d g):LQ K bB H1 Q d g:=λbw H' v e' R r=>h bw H' v (e.trans e') R r
theorem LQ.now{K ρ H Q d g v}(h:LQ K ρ H Q d g)(R:Rl K ρ g H)(r:d6 K ρ H d v):Q v H:=h ρ H v (.refl _ _) R r
theorem LQ.new{K ρ H Q}{p:Addr}(h:LQ K ρ H Q (.ref g.length) (g++[.lst l]))(R:Rl K ρ g H)(hp:H p=none)(r:b6 K ρ H l vs):Q (.ref p) (upd H p (.lst vs)) :=
 h (ρ++[p]) _ _ (A7 hp) (R.alloc hp r) (.ref (R.t6 p))
theorem LQ.tup{K ρ H Q}{g:G}{l:List D}{vs:List V}{p:Addr}(h:LQ K ρ H Q (.tup l) g)(R:Rl K ρ g H)(hp:H p=none)(r:b6 K ρ H l vs):Q (.ref p) (upd H p (.tup vs)) :=
 h ρ _ _ (q9 hp) (R.grow hp) (.tup (.inl m6) (r.ext (q9 hp)))
def r2(K:PySem.W.Frag)(p:Pr):R2:=λx y H Q=>∃d e g ρ,Rl K ρ g H/\d6 K ρ H d x/\d6 K ρ H e y/\cG p [d,e] g (LQ K ρ H Q)
def r1(K:PySem.W.Frag)(p:Pr):V->Hp->VK->Prop:=λx H Q=>∃d g ρ,Rl K ρ g H/\d6 K ρ H d x/\cG p [d] g (LQ K ρ H Q)
def rN(K:PySem.W.Frag)(p:Pr):List V->Hp->VK->Prop:=λxs H Q=>∃ds g ρ,Rl K ρ g H/\b6 K ρ H ds xs/\cG p ds g (LQ K ρ H Q)
theorem j7{n:Nat}(h:n<=100000):n<=sizeLine:=aL h (by decide)
theorem yy{n:Nat}(h:n<100000):n<sizeLine:=aq h (by decide)
theorem d6.j0{K ρ H i v}(h:d6 K ρ H (.int i) v):v=.int i:=by cases h;rfl
theorem d6.B0{K ρ H i v}(h:d6 K ρ H (.str i) v):v=.str i:=by cases h;rfl
theorem d6.L3{K ρ H i v}(h:d6 K ρ H (.bl i) v):v=.bl i:=by cases h;rfl
theorem d6.uF{K ρ H v}(h:d6 K ρ H .aX v):v=.aX:=by cases h;rfl
theorem d6.QQ{K ρ H n v}(h:d6 K ρ H (.ty n) v):v=.ty n:=by cases h;rfl
theorem d6.i9{K ρ H i v}(h:d6 K ρ H (.ref i) v):∃a,v=.ref a/\ρ[i]?=some a:=by cases h;exact⟨_,rfl,by assumption⟩
theorem d6.A9{K ρ H l v}(h:d6 K ρ H (.tup l) v):∃a vs,v=.ref a/\TupAt K H a vs/\b6 K ρ H l vs:=by cases h;exact⟨_,_,rfl,by assumption,by assumption⟩
theorem b6.one{K ρ H d vs}(h:b6 K ρ H [d] vs):∃v,vs=[v]/\d6 K ρ H d v:=by
 cases h with
 |cons r rr=>cases rr;exact⟨_,rfl,r⟩
theorem b6.two{K ρ H d e vs}(h:b6 K ρ H [d,e] vs):∃v w,vs=[v,w]/\d6 K ρ H d v/\d6 K ρ H e w:=by
 cases h with
 |cons r rr=>obtain⟨w,rfl,q⟩:=rr.one;exact⟨_,_,rfl,r,q⟩
theorem p7{a b c:D}(h:[a,b]=[c,d]):a=c/\b=d:=by cases h;exact⟨rfl,rfl⟩
section
theorem Jf(op:Operator):eP X (binaryOp op) (r2 X.K (.bin op)):=by
 intro pins s Z H x y v u Q I rx ry h;obtain⟨d,e,g,ρ,R,rd,re,d',g',h,q⟩:=h;rcases h with⟨i,j,r,ex,ha,rfl,rfl⟩|⟨rfl,h⟩|⟨rfl,h⟩
 ·obtain⟨rfl,rfl⟩:=p7 ex;obtain rfl:=rd.j0;obtain rfl:=re.j0;have fin:=q.now R (.int r);cases op<;>first|exact(show False from ha).elim|skip
  ·cases ha;exact Jd pins s Z H _ _ v u Q I rx ry ⟨i,j,rfl,rfl,fin⟩
  ·cases ha;exact Jn pins s Z H _ _ v u Q I rx ry ⟨i,j,rfl,rfl,fin⟩
  ·obtain⟨hc,rfl⟩:=ha;exact Jj pins s Z H _ _ v u Q I rx ry ⟨i,j,rfl,rfl,hc,fin⟩
  ·obtain⟨hc,rfl⟩:=ha;exact Ji pins s Z H _ _ v u Q I rx ry ⟨i,j,rfl,rfl,hc,fin⟩
  ·obtain⟨hc,rfl⟩:=ha;exact Jk pins s Z H _ _ v u Q I rx ry ⟨i,j,rfl,rfl,hc,fin⟩
  ·obtain⟨hc,rfl⟩:=ha;exact Jm pins s Z H _ _ v u Q I rx ry ⟨i,j,rfl,rfl,hc,fin⟩
  ·cases ha;exact Qg pins s Z H _ _ v u Q I rx ry ⟨i,j,rfl,rfl,fin⟩
  ·cases ha;exact Je pins s Z H _ _ v u Q I rx ry ⟨i,j,rfl,rfl,fin⟩
  ·obtain⟨hc,rfl⟩:=ha;exact LM pins s Z H _ _ v u Q I rx ry ⟨i,j,rfl,rfl,hc,fin⟩
 ·rcases h with⟨l,m,ex,hz,rfl,rfl⟩|⟨a,b,l,m,ex,ha,hb,hz,rfl,rfl⟩|⟨x',y',ex,hz,rfl,rfl⟩
  ·obtain⟨rfl,rfl⟩:=p7 ex;obtain⟨a,vs,rfl,ta,rs⟩:=rd.A9;obtain⟨b,ws,rfl,tb,rt⟩:=re.A9;refine Wc pins s Z H _ _ v u Q I rx ry ⟨a,b,vs,ws,rfl,rfl,ta.sq,tb.sq,?_,λz=>?_,λz=>?_,λp hp=>q.tup R hp (rs.append rt)⟩
   ·rw[<- rs.length,<- rt.length];exact j7 hz
   ·subst z;cases rs;exact q.now R (.tup tb rt)
   ·subst z;cases rt;rw[eY] at q;exact q.now R (.tup ta rs)
  ·obtain⟨rfl,rfl⟩:=p7 ex;obtain⟨a',rfl,ra⟩:=rd.i9;obtain⟨b',rfl,rb⟩:=re.i9;obtain⟨vs,z1,rs⟩:=R.lst ha ra;obtain⟨ws,z2,rt⟩:=R.lst hb rb;exact Jg pins s Z H _ _ v u Q I rx ry ⟨_,_,vs,ws,rfl,rfl,z1,z2,by rw[<- rs.length,<- rt.length];exact j7 hz,λp hp=>q.new R hp (rs.append rt)⟩
  ·obtain⟨rfl,rfl⟩:=p7 ex;obtain rfl:=rd.B0;obtain rfl:=re.B0;exact Uh pins s Z H _ _ v u Q I rx ry ⟨_,_,rfl,rfl,j7 hz,q.now R (.str _)⟩
 ·rcases h with⟨a,l,n,ex,ha,h1,h2,hz,rfl,rfl⟩|⟨l,n,ex,eA,h1,h2,hz,rfl,rfl⟩
  rotate_left
  ·obtain⟨rfl,rfl⟩:=p7 ex;obtain⟨a',vs,rfl,ta,rs⟩:=rd.A9;obtain rfl:=re.j0;refine LP pins s Z H _ _ v u Q I rx ry ⟨_,_,vs,rfl,rfl,ta.sq,λz=>?_,h1,h2,by rw[<- rs.length];exact j7 hz,λz=>?_,λp hp=>q.tup R hp (rs.rep _)⟩
   ·subst z;cases rs;exact eA rfl
   ·subst z;have:(List.replicate (Int.toNat 1) l).flatten=l:=by simp
    rw[this] at q;exact q.now R (.tup ta rs)
  obtain⟨rfl,rfl⟩:=p7 ex;obtain⟨a',rfl,ra⟩:=rd.i9;obtain rfl:=re.j0;obtain⟨vs,z1,rs⟩:=R.lst ha ra;exact Jl pins s Z H _ _ v u Q I rx ry ⟨_,_,vs,rfl,rfl,z1,by omega,by omega,by rw[<- rs.length];exact j7 hz,λp hp=>q.new R hp (rs.rep _)⟩
theorem Qh(op:UnaryOp):vj X (unaryOp op) (r1 X.K (.un op)):=by
 intro pins s Z H x v Q I rx h;obtain⟨d,g,ρ,R,rd,d',g',⟨rfl,i,ex,rfl,rfl⟩,q⟩:=h;cases ex;obtain rfl:=rd.j0;exact KI pins s Z H _ v Q I rx ⟨_,rfl,q.now R (.int _)⟩
section
variable{pins:List (Addr×Obj)}
theorem Eb(I:Inv X pins Z H s)(R:Rl X.K ρ g H)(n:Nat)(ih:∀{d:D} {v:V} {u:Value} {p:PyData},rd g n d=some p->d6 X.K ρ H d v->RelV v u->∃as,Reads s.heap u p as/\p.depth<=n):∀{vs:List V} {us:List Value} {ps:List PyData},l.mapM (rd g n)=some ps->b6 X.K ρ H l vs->Vals vs us->∃as,ReadsAll s.heap us ps as/\PyData.depthAll ps<=n:=by
 induction l with
 |nil =>
  intro vs us ps h rs rv;cases rs;cases rv;simp at h;subst h;exact⟨_,.nil,bY _⟩
 |cons d l il =>
  intro vs us ps h rs rv;cases rs with
  |cons gB rs =>
   cases rv with
   |cons ru rv =>
    rw[List.mapM_cons] at h;cases e:rd g n d with
    |none=>rw[e] at h;cases h
    |some p =>
     rw[e] at h;cases e2:l.mapM (rd g n) with
     |none=>rw[e2] at h;cases h
     |some qs =>
      rw[e2] at h;cases h;obtain⟨as,q1,d1⟩:=ih e gB ru;obtain⟨bs,q2,d2⟩:=il e2 rs rv;refine⟨_,.cons q1 q2,?_⟩;simp only[PyData.depthAll];omega
theorem P9(I:Inv X pins Z H s)(R:Rl X.K ρ g H)(n:Nat):∀{d:D} {v:V} {u:Value} {p:PyData},rd g n d=some p->d6 X.K ρ H d v->RelV v u->∃as,Reads s.heap u p as/\p.depth<=n:=by
 induction n with
 |zero =>
  intro d v u p h r ru;cases r with
  |aX=>simp only[rd] at h;cases h;cases ru;exact⟨_,.none,Nat.zero_le _⟩
  |bl b=>simp only[rd] at h;cases h;cases ru;exact⟨_,.bool b,Nat.zero_le _⟩
  |int i=>simp only[rd] at h;cases h;obtain⟨t,rfl⟩:=ru;exact⟨_,.int i t,Nat.zero_le _⟩
  |str x=>simp only[rd] at h;cases h;obtain⟨t,rfl⟩:=ru;exact⟨_,.str x t,Nat.zero_le _⟩
  |_=>simp only[rd] at h;cases h
 |succ n ih =>
  intro d v u p h r ru;cases r with
  |aX=>simp only[rd] at h;cases h;cases ru;exact⟨_,.none,Nat.zero_le _⟩
  |bl b=>simp only[rd] at h;cases h;cases ru;exact⟨_,.bool b,Nat.zero_le _⟩
  |int i=>simp only[rd] at h;cases h;obtain⟨t,rfl⟩:=ru;exact⟨_,.int i t,Nat.zero_le _⟩
  |str x=>simp only[rd] at h;cases h;obtain⟨t,rfl⟩:=ru;exact⟨_,.str x t,Nat.zero_le _⟩
  |ty x=>simp only[rd] at h;cases h
  |ref ha =>
   rename_i i a;simp only[rd] at h;cases e:c8 g i with
   |none=>rw[e] at h;cases h
   |some l =>
    rw[e] at h;dsimp only at h;cases e2:l.mapM (rd g n) with
    |none=>rw[e2] at h;cases h
    |some ps =>
     rw[e2] at h;cases h;cases ru;obtain⟨vs,hq,rs⟩:=R.items e ha;obtain⟨aN,rv,p,hz⟩:=I.list hq;obtain⟨as,q,hd⟩:=Eb I R n ih e2 rs rv;obtain⟨o,ho,hc,k,oo⟩:=p.isList;refine⟨_,.list ho hc oo (by simpa using q),?_⟩;simp only[PyData.depth];omega
  |tup ht rs =>
   rename_i l a vs;simp only[rd] at h;cases e2:l.mapM (rd g n) with
   |none=>rw[e2] at h;cases h
   |some ps =>
    rw[e2] at h;cases h;cases ru;obtain⟨aN,rv,pt,hz⟩:=I.tuple ht.sq;obtain⟨as,q,hd⟩:=Eb I R n ih e2 rs rv;obtain⟨o,ho,hc,k,oo⟩:=id pt;refine⟨_,.tuple ho hc oo (by simpa using q),?_⟩;simp only[PyData.depth];omega
end
end
theorem uO{α:Type}[BEq α][LawfulBEq α][DecidableEq α](a b:α):decide (a=b)=(a==b):=by
 by_cases e:a=b
 ·subst e;simp
 ·rw[aw e];exact(cT.mpr e).symm
theorem uT{K ρ H}{c:Key}(h:Y5 d=some c)(r:d6 K ρ H d v):v=kV c:=by
 cases r<;>first|(cases h;rfl)|cases h
theorem Z9.some{K ρ H}{o:Option V}{d:D}(h:Z9 K ρ H (some d) o):∃v,o=some v/\d6 K ρ H d v:=by
 cases o with
 |none=>exact h.elim
 |some v=>exact⟨v,rfl,h⟩
theorem Z9.isSome{K ρ H}{o:Option V}{d:Option D}(h:Z9 K ρ H d o):d.isSome=o.isSome:=by
 cases o<;>cases d<;>first|rfl|exact h.elim
theorem BW{pins:List (Addr×Obj)}{e:D}{y:V}{v u:Value}{Q:VK}(hu:X.A.units+100<cLine)(I:Inv X pins Z H s)(rx:RelV x v)(ry:RelV y u)(R:Rl X.K ρ g H)(gB:d6 X.K ρ H d x)(re:d6 X.K ρ H e y)(h:rV g d e b)(neg:Bool)(q:Q (.bl (xor neg b)) H):wpAny (model X.prog X.w) X.A (compareOp (if neg then .NotEq else .Eq) v u) (EP X pins Z Q) X.xe s:=by
 rcases h with⟨i,j,rfl,rfl,rfl⟩|⟨i,j,rfl,rfl,rfl⟩|⟨i,j,rfl,rfl,rfl⟩|⟨p,p',h1,h2,c1,c2,rfl⟩
 ·obtain rfl:=gB.j0;obtain rfl:=re.j0;cases neg
  ·exact zo pins s Z H _ _ v u Q I rx ry ⟨rfl,by rw[uP];simpa[uO] using q⟩
  ·exact zp pins s Z H _ _ v u Q I rx ry ⟨rfl,by rw[uP];simpa[uO] using q⟩
 ·obtain rfl:=gB.L3;obtain rfl:=re.L3;cases neg
  ·exact zo pins s Z H _ _ v u Q I rx ry ⟨rfl,by rw[uE];simpa using q⟩
  ·exact zp pins s Z H _ _ v u Q I rx ry ⟨rfl,by rw[uE];simpa using q⟩
 ·obtain rfl:=gB.B0;obtain rfl:=re.B0;cases neg
  ·exact zo pins s Z H _ _ v u Q I rx ry ⟨rfl,by rw[uQ];simpa[uO] using q⟩
  ·exact zp pins s Z H _ _ v u Q I rx ry ⟨rfl,by rw[uQ];simpa[uO] using q⟩
 ·obtain⟨as,q1,d1⟩:=P9 I R 6 h1 gB rx;obtain⟨bs,q2,d2⟩:=P9 I R 6 h2 re ry;have hr:X.A.units+min p.depth p'.depth<cLine:=by omega
  cases neg
  ·exact SeqAt.compareEq_reads q1 q2 c1 c2 hr ⟨.bl _,H,I,rfl,by simpa using q⟩
  ·exact SeqAt.compareNe_reads q1 q2 c1 c2 hr ⟨.bl _,H,I,rfl,by simpa using q⟩
theorem in_of{pins:List (Addr×Obj)}{e:D}{y:V}{v u:Value}{Q:VK}(hu:X.A.units+100<cLine)(I:Inv X pins Z H s)(rx:RelV x v)(ry:RelV y u)(R:Rl X.K ρ g H)(gB:d6 X.K ρ H d x)(re:d6 X.K ρ H e y)(h:inR g d e b)(neg:Bool)(q:Q (.bl (xor neg b)) H):wpAny (model X.prog X.w) X.A (compareOp (if neg then .NotIn else .In) v u) (EP X pins Z Q) X.xe s:=by
 rcases h with⟨a,kvs,c,rfl,ha,hc,rfl⟩|⟨l,ps,p,h0,h1,h2,c1,c2,rfl⟩
 ·obtain⟨a',rfl,ra⟩:=re.i9;obtain⟨vs,z,rs⟩:=R.bX ha ra;have:=uT hc gB;subst this;cases ry;rw[(rs.val c).isSome] at q;cases neg
  ·exact Nv (by omega) I (U4.k z) rx λs' I'=>⟨.bl _,H,I',rfl,by simpa using q⟩
  ·exact Ld (by omega) I (U4.k z) rx λs' I'=>⟨.bl _,H,I',rfl,by simpa using q⟩
 ·obtain⟨as,q1,d1⟩:=P9 I R 6 h2 gB rx;cases e with
  |tup m =>
   cases h0;have h3:rd g 7 (.tup l)=some (.tuple ps):=by simp only[rd];rw[show l.mapM (rd g 6)=some ps from h1];rfl
   obtain⟨bs,q2,d2⟩:=P9 I R 7 h3 re ry;have hr:X.A.units+1+min (PyData.depthAll ps) p.depth<cLine:=by omega
   cases neg
   ·exact SeqAt.in_tuple_reads q2 q1 c1 c2 hr ⟨.bl _,H,I,rfl,by simpa using q⟩
   ·exact SeqAt.notIn_tuple_reads q2 q1 c1 c2 hr ⟨.bl _,H,I,rfl,by simpa using q⟩
  |ref a =>
   have h3:rd g 7 (.ref a)=some (.list ps):=by
    simp only[rd];rw[show c8 g a=some l from h0];dsimp only;rw[show l.mapM (rd g 6)=some ps from h1]
    rfl
   obtain⟨bs,q2,d2⟩:=P9 I R 7 h3 re ry;have hr:X.A.units+1+min (PyData.depthAll ps) p.depth<cLine:=by omega
   cases neg
   ·exact SeqAt.in_list_reads q2 q1 c1 c2 hr ⟨.bl _,H,I,rfl,by simpa using q⟩
   ·exact SeqAt.notIn_list_reads q2 q1 c1 c2 hr ⟨.bl _,H,I,rfl,by simpa using q⟩
  |_=>cases h0
theorem U9(hu:X.A.units+100<cLine)(op:CmpOp):eP X (compareOp op) (r2 X.K (.cmp op)):=by
 intro pins s Z H x y v u Q I rx ry h;obtain⟨d,e,g,ρ,R,gB,re,d',g',⟨x',y',b,ex,h,rfl,rfl⟩,q⟩:=h;obtain⟨rfl,rfl⟩:=p7 ex;have fin:=q.now R (.bl b);have mw:∀{P:Int->Int->Bool},(∃i j,d=.int i/\e=.int j/\b=P i j)->∃i j,x=.int i/\y=.int j/\b=P i j:=λhh=>by
  obtain⟨i,j,z1,z2,z3⟩:=hh;exact⟨i,j,(z1▸gB).j0,(z2▸re).j0,z3⟩
 cases op
 ·exact BW hu I rx ry R gB re h false (by simpa using fin)
 ·exact BW hu I rx ry R gB re h true (by simpa using fin)
 ·obtain⟨i,j,e1,e2,e3⟩:=mw (P:=λi j=>decide (i<j)) h;exact Qf pins s Z H _ _ v u Q I rx ry ⟨i,j,e1,e2,by subst e3;exact fin⟩
 ·obtain⟨i,j,e1,e2,e3⟩:=mw (P:=λi j=>decide (i<=j)) h;exact Qe pins s Z H _ _ v u Q I rx ry ⟨i,j,e1,e2,by subst e3;exact fin⟩
 ·obtain⟨i,j,e1,e2,e3⟩:=mw (P:=λi j=>decide (j<i)) h;exact Qc pins s Z H _ _ v u Q I rx ry ⟨i,j,e1,e2,by subst e3;exact fin⟩
 ·obtain⟨i,j,e1,e2,e3⟩:=mw (P:=λi j=>decide (j<=i)) h;exact Qb pins s Z H _ _ v u Q I rx ry ⟨i,j,e1,e2,by subst e3;exact fin⟩
 ·obtain⟨rfl,rfl⟩:=(show _/\_ from h)
  obtain rfl:=re.uF;refine Jh pins s Z H _ _ v u Q I rx ry ⟨rfl,?_⟩;have e:Y7 d=decide (x=V.aX):=by cases gB<;>simp[Y7]
  rw[<- e];exact fin
 ·obtain⟨rfl,rfl⟩:=(show _/\_ from h)
  obtain rfl:=re.uF;refine LO pins s Z H _ _ v u Q I rx ry ⟨rfl,?_⟩;have e:Y7 d=decide (x=V.aX):=by cases gB<;>simp[Y7]
  rw[<- e];exact fin
 ·rcases h with h|⟨a,S,n,i,rfl,ha,rfl,rfl⟩
  ·exact in_of hu I rx ry R gB re h false (by simpa using fin)
  ·obtain⟨a',rfl,ra⟩:=re.i9;obtain rfl:=gB.j0;exact SK pins s Z H _ _ v u Q I rx ry ⟨i,a',S,n,rfl,rfl,R.set ha ra,fin⟩
 ·rcases h with h|⟨a,S,n,i,rfl,ha,rfl,hb⟩
  ·exact in_of hu I rx ry R gB re h true (by simpa using fin)
  ·obtain⟨a',rfl,ra⟩:=re.i9;obtain rfl:=gB.j0;exact Vp pins s Z H _ _ v u Q I rx ry ⟨i,a',S,n,rfl,rfl,R.set ha ra,by rw[<- hb,qh];exact fin⟩
theorem empty_eq{K ρ H}(r:b6 K ρ H l vs):l.isEmpty=vs.isEmpty:=by cases r<;>rfl
theorem KA{K:PySem.W.Frag}(R:Rl K ρ g H)(r:d6 K ρ H d x)(h:BI g d b):xY K x H b:=by
 rcases h with⟨rfl,rfl⟩|rfl|⟨i,rfl,rfl⟩|⟨l,rfl,rfl⟩|⟨a,l,rfl,hl,rfl⟩
 ·obtain rfl:=r.uF;rfl
 ·obtain rfl:=r.L3;rfl
 ·obtain rfl:=r.j0;rfl
 ·obtain⟨a,vs,rfl,ht,rs⟩:=r.A9;exact .inr (.inl ⟨_,ht.sq,by rw[empty_eq rs]⟩)
 ·obtain⟨a',rfl,ha⟩:=r.i9;obtain⟨vs,hq,rs⟩:=R.items hl ha;exact .inl ⟨_,hq,by rw[empty_eq rs]⟩
theorem KU{K ρ H}{i:Int}(r:b6 K ρ H l vs)(h:iu l i=some d):∃v,iu vs i=some v/\d6 K ρ H d v:=by
 unfold iu at h ⊢;rw[<- r.length];cases e:lH l.length i with
 |none=>rw[e] at h;cases h
 |some j =>
  rw[e] at h;exact r.get h
theorem uH{K ρ H}{x:D}(R:Rl K ρ g H)(r:d6 K ρ H x v)(h:D9 g x=some l):∃a vs,v=.ref a/\b6 K ρ H l vs/\((∃i,x=.ref i/\ρ[i]?=some a)/\eW K H a vs\/x=.tup l/\TupAt K H a vs):=by
 cases r with
 |tup ht rs=>cases h;exact⟨_,_,rfl,rs,.inr ⟨rfl,ht⟩⟩
 |ref ha=>obtain⟨vs,hq,rs⟩:=R.items h ha;exact⟨_,_,rfl,rs,.inl ⟨⟨_,rfl,ha⟩,hq⟩⟩
 |_=>cases h
theorem Pz(hu:X.A.units+100<cLine):oV X (r2 X.K .ix):=by
 intro value slice pins s Z H x y v u Q I rx ry h hs;obtain⟨d,e,g,ρ,R,gB,re,d',g',⟨rfl,h⟩,q⟩:=h;rcases h with⟨x',l,i,ex,hl,ha⟩|⟨a,kvs,y',c,ex,ha,hc,hv⟩|⟨x',i,c,ex,h0,h1,rfl⟩
 ·obtain⟨rfl,rfl⟩:=p7 ex;obtain rfl:=re.j0;obtain⟨a,vs,rfl,rs,h⟩:=uH R gB hl;obtain⟨w,hw,eO⟩:=KU rs ha;rcases h with⟨_,hq⟩|⟨_,ht⟩
  ·exact Lq value slice pins s Z H _ _ v u Q I rx ry ⟨_,_,i,w,rfl,rfl,hq,hw,q.now R eO⟩ hs
  ·exact II value slice pins s Z H _ _ v u Q I rx ry ⟨_,_,i,w,rfl,rfl,ht.sq,hw,q.now R eO⟩ hs
 ·obtain⟨rfl,rfl⟩:=p7 ex;obtain⟨a',rfl,ra⟩:=gB.i9;obtain⟨vs,z,rs⟩:=R.bX ha ra;have:=uT hc re;subst this;have q2:=rs.val c;rw[hv] at q2;obtain⟨w,hw,eO⟩:=q2.some;exact Lp (by omega) value slice pins s Z H _ _ v u Q I rx ry ⟨_,w,rfl,by have:=U4.k (k:=c) z;rw[hw] at this;exact this,q.now R eO⟩ hs
 ·obtain⟨rfl,rfl⟩:=p7 ex;obtain rfl:=gB.B0;obtain rfl:=re.j0;exact IH value slice pins s Z H _ _ v u Q I rx ry ⟨x',i,c,rfl,rfl,j7 h0,h1,q.now R (.str _)⟩ hs
def Gv(K:PySem.W.Frag):V->Option Int->Option Int->Hp->VK->Prop:=λx lo hi H Q=>∃d g ρ d' g',Rl K ρ g H/\d6 K ρ H d x/\qq d lo hi g d' g'/\LQ K ρ H Q d' g'
theorem zr:sZ X (Gv X.K):=by
 intro pins s Z H x v vl vu lo hi sl Q I rx hs pl pu h;obtain⟨d,g,ρ,d',g',R,gB,h,q⟩:=h;rcases h with⟨l,rfl,rfl,rfl⟩|⟨a,l,rfl,hl,rfl,rfl⟩
 ·obtain⟨a,vs,rfl,ht,rs⟩:=gB.A9;refine MJ pins s Z H _ v vl vu lo hi sl Q I rx hs pl pu ⟨_,_,rfl,ht.sq,λz=>?_,λp hp=>q.tup R hp (rs.cut lo hi)⟩;refine q.now R (.tup ht ?_);have:=rs.cut lo hi;rw[z] at this;exact this
 ·obtain⟨a',rfl,ha⟩:=gB.i9;obtain⟨vs,hq,rs⟩:=R.items hl ha;exact MI pins s Z H _ v vl vu lo hi sl Q I rx hs pl pu ⟨_,_,rfl,hq,λp hp=>q.new R hp (rs.cut lo hi)⟩
def Og(K:PySem.W.Frag):V->V->V->Hp->(Hp->Prop)->Prop:=λo i v H Q=>∃xM di dv g ρ,Rl K ρ g H/\d6 K ρ H xM o/\d6 K ρ H di i/\d6 K ρ H dv v/\X2 xM di dv g (λg'=>∀bw H',Ext ρ H bw H'->Rl K bw g' H'->Q H')
theorem Ka(hu:X.A.units+100<cLine):xW X (Og X.K):=by
 intro pins s Z H o i v ov iv u Q I ro ri rv h;obtain⟨xM,di,dv,g,ρ,R,r1,r2,r3,g',h,q⟩:=h;rcases h with⟨a,i',l,j,rfl,rfl,hl,hj,rfl⟩|⟨a,kvs,c,rfl,ha,hc,hz,rfl⟩
 ·obtain⟨a',rfl,ha⟩:=r1.i9;obtain rfl:=r2.j0;obtain⟨vs,z,rs⟩:=R.lst hl ha;obtain⟨R',e'⟩:=R.write hl ha (rs.set r3 j);exact set_list pins s Z H _ _ _ ov iv u Q I ro ri rv ⟨_,vs,_,j,rfl,rfl,z,by rw[<- rs.length];exact hj,q ρ _ e' R'⟩
 ·obtain⟨a',rfl,ra⟩:=r1.i9;obtain⟨vs,z,rs⟩:=R.bX ha ra;have:=uT hc r2;subst this;obtain⟨R',e'⟩:=R.put (o':=.bX (putD kvs c dv)) (u:=.dK (putK vs c v)) ha rfl ra (rs.put r3);cases ro;exact Si (by omega) I (uX.k z (by rw[<- rs.length];exact yy hz)) ri rv λs' I'=>⟨_,I',q ρ _ e' R'⟩
theorem IT:m5 X (.builtin "len") (rN X.K .len):=by
 intro pins s Z H xs us Q I r h;obtain⟨ds,g,ρ,R,rs,d',g',⟨rfl,h⟩,q⟩:=h;rcases h with⟨x,l,rfl,hl,rfl⟩|⟨a,kvs,rfl,ha,rfl⟩|⟨x,rfl,hz,rfl⟩
 ·obtain⟨v,rfl,rv⟩:=rs.one;obtain⟨a,vs,rfl,rl,h⟩:=uH R rv hl;refine Vb pins s Z H _ us Q I r ⟨_,_,rfl,?_,by rw[<- rl.length];exact q.now R (.int _)⟩;exact h.imp (λz=>z.2) (λz=>z.2.sq)
 ·obtain⟨v,rfl,rv⟩:=rs.one;obtain⟨a',rfl,ra⟩:=rv.i9;obtain⟨vs,z,rk⟩:=R.bX ha ra;exact Sd pins s Z H _ us Q I r ⟨_,_,rfl,z,by rw[<- rk.length];exact q.now R (.int _)⟩
 ·obtain⟨v,rfl,rv⟩:=rs.one;obtain rfl:=rv.B0;exact Vc pins s Z H _ us Q I r ⟨_,rfl,j7 hz,q.now R (.int _)⟩
theorem yK{K ρ H}:∀(ks:List Key),b6 K ρ H (ks.map kD) (ks.map kV)
 |[]=>.nil
 |.inl _::r=>.cons (.int _) (yK r)
 |.inr _::r=>.cons (.str _) (yK r)
theorem i7.keys{α:Type}{K ρ H}{ds:List (α×D)}{vs:List (α×V)}(h:i7 K ρ H ds vs):ds.map (·.1)=vs.map (·.1):=by
 induction h with
 |nil=>rfl
 |cons _ _ ih=>rw[aW,aW,ih]
theorem Lu(hc:X.calm=true):m5 X (.type "list") (rN X.K .list):=by
 intro pins s Z H xs us Q I r h;obtain⟨ds,g,ρ,R,rs,d',g',⟨x,l,rfl,hl,rfl,rfl⟩|⟨a,kvs,rfl,ha,hn,rfl,rfl⟩,q⟩:=h
 rotate_left
 ·obtain⟨v,rfl,rv⟩:=rs.one;obtain⟨a',rfl,ra⟩:=rv.i9;obtain⟨vs,z,rk⟩:=R.bX ha ra;exact RE hc pins s Z H _ us Q I r ⟨_,vs,rfl,z,by rw[<- rk.length];exact hn,λp hp=>q (ρ++[p]) _ _ (A7 hp) (R.new hp (o:=.lst ((kvs.map (·.1)).map kD)) (u:=.lst ((vs.map (·.1)).map kV)) (by rw[rk.keys];exact yK _)) (.ref (R.t6 p))⟩
 obtain⟨v,rfl,rv⟩:=rs.one;obtain⟨a,vs,rfl,rl,h⟩:=uH R rv hl;exact Vd pins s Z H _ us Q I r ⟨_,_,rfl,h.imp (λz=>z.2) (λz=>z.2.sq),λp hp=>q.new R hp rl⟩
theorem Lo:m5 X (.builtin "isinstance") (rN X.K .isin):=by
 intro pins s Z H xs us Q I r h;obtain⟨ds,g,ρ,R,rs,d',g',⟨x,c,b,rfl,hc,hb,rfl,rfl⟩,q⟩:=h;obtain⟨v,w,rfl,r1,r2⟩:=rs.two;obtain rfl:=r2.QQ;have fin:=q.now R (.bl b);have go:∀(t:Value) (v:V),gf X.K H v t->PySem.W.kitOne X.K t (.type c)=some b->Vals [v,V.ty c] us->wpAny (model X.prog X.w) X.A (call (.builtin "isinstance") us) (EP X pins Z Q) X.xe s :=
  λt v ht hk r=>Uz pins s Z H _ us Q I r ⟨v,t,c,b,rfl,ht,hk,fin⟩
 simp only[List.mem_cons,List.mem_nil_iff,or_false] at hc;cases r1 with
 |aX=>refine go _ _ .aX ?_ r;cases hb;rcases hc with rfl|rfl|rfl|rfl|rfl<;>rfl
 |bl y=>refine go _ _ (.bl y) ?_ r;cases hb;rcases hc with rfl|rfl|rfl|rfl|rfl<;>rfl
 |int y=>refine go _ _ (.int y) ?_ r;cases hb;rcases hc with rfl|rfl|rfl|rfl|rfl<;>rfl
 |str y=>refine go _ _ (.str y) ?_ r;cases hb;rcases hc with rfl|rfl|rfl|rfl|rfl<;>rfl
 |ty _=>cases hb
 |tup ht rs =>
  cases hb;rcases ht with ht|ht
  ·refine go _ _ (.tup ht) ?_ r;rcases hc with rfl|rfl|rfl|rfl|rfl<;>rfl
  ·obtain⟨o,aN,n,lk,iB,_⟩:=ht;obtain⟨u,w',rfl,ru,eO⟩:=vals2 r;cases (show w'=Value.type c from eO);cases ru;have hk:PySem.W.kitOne X.K (.type "tuple") (.type c)=some (c=="tuple"):=by rcases hc with rfl|rfl|rfl|rfl|rfl<;>rfl
   exact bK Ga I.fm ⟨o,I.fm _ _ lk,iB⟩ hk (λz=>nomatch z) λtk=>⟨.bl _,H,I.tok tk,rfl,fin⟩
 |@ref i a ha =>
  have HC:∃m,g'[i]?=some (.lst m)/\b=(c=="list"):=by
   simp only[oP] at hb;split at hb
   ·exact⟨_,by assumption,(aG hb).symm⟩
   ·cases hb
  obtain⟨m,e,rfl⟩:=HC;obtain⟨vs,z,_⟩:=R.lst e ha;refine go _ _ (.lst z) ?_ r;rcases hc with rfl|rfl|rfl|rfl|rfl<;>rfl
theorem Tt:∀{l:List D} {b:Bool},T4 l=some b->∃bs:List Bool,l=bs.map D.bl/\b=bs.all id:=by
 intro l
 induction l with
 |nil=>intro b h;cases h;exact⟨[],rfl,rfl⟩
 |cons d r ih =>
  intro b h;cases d<;>first|(cases h;done)|skip
  rename_i c;simp only[T4] at h;cases e:T4 r with
  |none=>rw[e] at h;cases h
  |some b' =>
   rw[e] at h;cases h;obtain⟨bs,rfl,rfl⟩:=ih e;exact⟨c::bs,rfl,by simp⟩
theorem b6.Lm{K ρ H}:∀{bs:List Bool} {vs:List V},b6 K ρ H (bs.map D.bl) vs->vs=bs.map V.bl:=by
 intro bs
 induction bs with
 |nil=>intro vs h;cases h;rfl
 |cons b r ih =>
  intro vs h;cases h with
  |cons h rr=>rw[ih rr,h.L3];rfl
theorem QZ(hc:X.calm=true):m5 X (.builtin "all") (rN X.K .all):=by
 intro pins s Z H xs us Q I r h;obtain⟨ds,g,ρ,R,rs,d',g',⟨a,l,b,rfl,hl,hb,rfl,rfl⟩,q⟩:=h;obtain⟨v,rfl,rv⟩:=rs.one;obtain⟨a',rfl,ra⟩:=rv.i9;obtain⟨vs,hq,rs⟩:=R.items hl ra;rcases hb with hb|⟨ns,rfl,rfl⟩
 rotate_left
 ·have:=rs.ints;subst this;exact Sb hc pins s Z H _ us Q I r ⟨_,ns,rfl,hq,q.now R (.bl _)⟩
 obtain⟨bs,rfl,rfl⟩:=Tt hb;have:=rs.Lm;subst this;exact Sa hc pins s Z H _ us Q I r ⟨_,bs,rfl,hq,q.now R (.bl _)⟩
theorem yJ{K ρ H}:∀(ns:List Int),b6 K ρ H (ns.map D.int) (ns.map V.int)
 |[]=>.nil
 |_::r=>.cons (.int _) (yJ r)
theorem WO(hc:X.calm=true):m5 X (.builtin "sorted") (rN X.K .eh):=by
 intro pins s Z H xs us Q I r h;obtain⟨ds,g,ρ,R,rs,d',g',⟨a,kvs,ns,rfl,ha,hk,hn,rfl,rfl⟩|⟨x,ns,rfl,hx,hn,rfl,rfl⟩,q⟩:=h
 rotate_left
 ·obtain⟨v,rfl,rv⟩:=rs.one;obtain⟨a,vs,rfl,rl,h⟩:=uH R rv hx;have:=rl.ints;subst this;exact RG pins s Z H _ us Q I r ⟨_,ns,rfl,h.imp (λz=>z.2) (λz=>z.2.sq),hn,λp hp=>q (ρ++[p]) _ _ (A7 hp) (R.new hp (o:=.lst ((K3 ns).map .int)) (u:=.lst ((K3 ns).map V.int)) (yJ _)) (.ref (R.t6 p))⟩
 obtain⟨v,rfl,rv⟩:=rs.one;obtain⟨a',rfl,ra⟩:=rv.i9;obtain⟨vs,z1,rk⟩:=R.bX ha ra;exact RQ hc pins s Z H _ us Q I r ⟨_,vs,ns,rfl,z1,rk.keys.symm.trans hk,hn,λp hp=>q (ρ++[p]) _ _ (A7 hp) (R.new hp (o:=.lst ((n9 ns).map .int)) (u:=.lst ((n9 ns).map V.int)) (yJ _)) (.ref (R.t6 p))⟩
theorem Km(hc:X.calm=true):m5 X (.builtin "sum") (rN X.K .sum):=by
 intro pins s Z H xs us Q I r h;obtain⟨ds,g,ρ,R,rs,d',g',⟨a,ns,rfl,hl,rfl,rfl⟩,q⟩:=h;obtain⟨v,rfl,rv⟩:=rs.one;obtain⟨a',rfl,ra⟩:=rv.i9;obtain⟨vs,hq,rs⟩:=R.items hl ra;have:=rs.ints;subst this;exact Se hc pins s Z H _ us Q I r ⟨_,ns,rfl,hq,q.now R (.int _)⟩
theorem IF:m5 X (.type "int") (rN X.K .int):=by
 intro pins s Z H xs us Q I r h;obtain⟨ds,g,ρ,R,rs,d',g',⟨rfl,h⟩,q⟩:=h;rcases h with⟨i,rfl,rfl⟩|⟨b,rfl,rfl⟩
 ·obtain⟨v,rfl,rv⟩:=rs.one;obtain rfl:=rv.j0;exact CY pins s Z H _ us Q I r (.inl ⟨i,rfl,q.now R (.int _)⟩)
 ·obtain⟨v,rfl,rv⟩:=rs.one;obtain rfl:=rv.L3;exact CY pins s Z H _ us Q I r (.inr ⟨b,rfl,q.now R (.int _)⟩)
def rM(K:PySem.W.Frag)(p:Pr):V->List V->Hp->VK->Prop:=λx xs H Q=>∃d ds g ρ,Rl K ρ g H/\d6 K ρ H d x/\b6 K ρ H ds xs/\cG p (d::ds) g (LQ K ρ H Q)
theorem R0{a b:D}{m:List D}(h:a::l=b::m):a=b/\l=m:=by cases h;exact⟨rfl,rfl⟩
theorem Xd:jV X "list.append" (rM X.K .append):=by
 intro pins s Z H x xs v us Q I rx r h;obtain⟨d,ds,g,ρ,R,rd,rs,d',g',⟨a,y,l,ex,ha,hz,rfl,rfl⟩,q⟩:=h;obtain⟨rfl,rfl⟩:=R0 ex;obtain⟨a',rfl,ra⟩:=rd.i9;obtain⟨w,rfl,eO⟩:=rs.one;obtain⟨vs,z1,rv⟩:=R.lst ha ra;obtain⟨R2,e2⟩:=R.write ha ra (rv.append (.cons eO .nil));exact SF pins s Z H _ _ v us Q I rx r ⟨_,vs,_,rfl,rfl,z1,by rw[<- rv.length];exact yy hz,q ρ _ _ e2 R2 .aX⟩
theorem Vw:jV X "list.clear" (rM X.K .clear):=by
 intro pins s Z H x xs v us Q I rx r h;obtain⟨d,ds,g,ρ,R,rd,rs,d',g',⟨a,l,ex,ha,rfl,rfl⟩,q⟩:=h;obtain⟨rfl,rfl⟩:=R0 ex;obtain⟨a',rfl,ra⟩:=rd.i9;cases rs;obtain⟨vs,z1,rv⟩:=R.lst ha ra;obtain⟨R2,e2⟩:=R.write ha ra (b6.nil);exact VW pins s Z H _ _ v us Q I rx r ⟨_,vs,rfl,rfl,z1,q ρ _ _ e2 R2 .aX⟩
theorem Me:jV X "list.pop" (rM X.K .nQ):=by
 intro pins s Z H x xs v us Q I rx r h;obtain⟨d,ds,g,ρ,R,rd,rs,y,g',⟨a,l,ex,ha,rfl⟩,q⟩:=h;obtain⟨rfl,rfl⟩:=R0 ex;obtain⟨a',rfl,ra⟩:=rd.i9;cases rs;obtain⟨vs,z1,rv⟩:=R.lst ha ra;obtain⟨w,hw,eO⟩:=rv.get (i:=l.length) (d:=y) (by simp);have hl:vs.length=l.length+1:=by rw[<- rv.length];simp
 have rl:b6 X.K ρ H l vs.dropLast:=by
  have:=rv.erase l.length;rw[List.eraseIdx_append_of_length_le (aj _)] at this;rw[show vs.eraseIdx l.length=vs.dropLast by rw[List.eraseIdx_eq_dropLast];omega] at this;simpa using this
 obtain⟨R2,e2⟩:=R.write ha ra rl;exact Ja pins s Z H _ _ v us Q I rx r ⟨_,vs,w,rfl,rfl,z1,by rw[hl];exact hw,q ρ _ _ e2 R2 (eO.ext e2)⟩
theorem Wr:jV X "list.pop" (rM X.K .pop):=by
 intro pins s Z H x xs v us Q I rx r h;obtain⟨d,ds,g,ρ,R,rd,rs,y,g',⟨a,i,l,k,ex,ha,h1,h2,hk,hy,rfl⟩,q⟩:=h;obtain⟨rfl,rfl⟩:=R0 ex;obtain⟨a',rfl,ra⟩:=rd.i9;obtain⟨w,rfl,eO⟩:=rs.one;obtain rfl:=eO.j0;obtain⟨vs,z1,rv⟩:=R.lst ha ra;obtain⟨w,hw,eO⟩:=rv.get hy;obtain⟨R2,e2⟩:=R.write ha ra (rv.erase k);exact VX pins s Z H _ _ v us Q I rx r ⟨_,vs,i,k,w,rfl,rfl,z1,h1,h2,by rw[<- rv.length];exact hk,hw,q ρ _ _ e2 R2 (eO.ext e2)⟩
theorem b6.strs{K ρ H}{ys:List Str}(h:b6 K ρ H (ys.map D.str) vs):vs=ys.map V.str:=by
 induction ys generalizing vs with
 |nil=>cases h;rfl
 |cons y ys ih =>
  cases h with
  |cons q r=>cases q;rw[ih r];rfl
theorem ty_list(R:Rl X.K ρ g H)(r:d6 X.K ρ H d v)(h:∃a l,d=.ref a/\c8 g a=some l):mj X.K "list" v H:=by
 obtain⟨a,l,rfl,hl⟩:=h;obtain⟨a',rfl,ra⟩:=r.i9;obtain⟨vs,hq,_⟩:=R.items hl ra;exact .inl ⟨rfl,vs,hq⟩
theorem Mq:jV X "set.add" (rM X.K .kd):=by
 intro pins s Z H x xs v us Q I rx r h;obtain⟨d,ds,g,ρ,R,rd,rs,d',g',⟨a,i,S,n,ex,ha,hn,rfl,rfl⟩,q⟩:=h;obtain⟨rfl,rfl⟩:=R0 ex;obtain⟨a',rfl,ra⟩:=rd.i9;obtain⟨w,rfl,eO⟩:=rs.one;obtain rfl:=eO.j0;obtain⟨R2,e2⟩:=R.put (o':=.set (λk=>S k||decide (k=i)) (if S i then n else n+1)) (u:=.set (λk=>S k||decide (k=i)) (if S i then n else n+1)) ha rfl ra ⟨rfl,rfl⟩;exact Ue pins s Z H _ _ v us Q I rx r ⟨_,i,S,n,rfl,rfl,R.set ha ra,hn,q ρ _ _ e2 R2 .aX⟩
theorem ty_set(R:Rl X.K ρ g H)(r:d6 X.K ρ H d v)(h:mX .kd d g):mj X.K "set" v H:=by
 obtain⟨a,S,n,rfl,hl⟩:=h;obtain⟨a',rfl,ra⟩:=r.i9;exact .inr (.inr (.inr ⟨rfl,S,n,R.set hl ra⟩))
noncomputable abbrev gn:=List Str×XK
def LX(K:PySem.W.Frag)(ρ:List Addr)(H:Hp)(Ξ:gn):KX:=λx g'=>∀bw H' C,Ext ρ H bw H'->Rl K bw g' H'->x.cls∈Ξ.1->m7 K x.cls C->Ξ.2 (.ref C) none H'
theorem LX.ext{K:PySem.W.Frag}{bB:List Addr}{H1:Hp}{Ξ:gn}(e:Ext ρ H bB H1){x:Xn}(h:LX K ρ H Ξ x g):LX K bB H1 Ξ x g:=λbw H' C e' R hm c=>h bw H' C (e.trans e') R hm c
noncomputable abbrev lS(ex:List Str):gn:=(ex,λ_ _ _=>False)
def LE(K:PySem.W.Frag)(Ξ:gn)(t:S->G->KD->KX->Prop):TE:=λbC H Q=>∃Z g ρ,k7 K ρ H Z bC/\Rl K ρ g H/\t Z g (LQ K ρ H Q) (LX K ρ H Ξ)
def LT(K:PySem.W.Frag)(Ξ:gn)(t:S->G->(Bool->G->Prop)->KX->Prop):TT:=λbC H Q=>∃Z g ρ,k7 K ρ H Z bC/\Rl K ρ g H/\t Z g (λb g'=>∀bw H',Ext ρ H bw H'->Rl K bw g' H'->Q b H') (LX K ρ H Ξ)
def LA(K:PySem.W.Frag)(Ξ:gn)(t:S->G->(List D->G->Prop)->KX->Prop):TA:=λbC H Q=>∃Z g ρ,k7 K ρ H Z bC/\Rl K ρ g H/\t Z g (λds g'=>∀bw H' vs,Ext ρ H bw H'->Rl K bw g' H'->b6 K bw H' ds vs->Q vs H') (LX K ρ H Ξ)
def U3(K:PySem.W.Frag)(fg:List Addr)(H0:Hp)(k:IK)(J:It):Prop:=∀ρ g H,Ext fg H0 ρ H->Rl K ρ g H->∀i,(k.at i g=some none->J.stop i H) /\
 ∀d,k.at i g=some (some d)->J.go i H/\∀v H',J.nJ i H v H'->Ext ρ H ρ H'/\Rl K ρ g H'/\d6 K ρ H' d v
def LI(K:PySem.W.Frag)(Ξ:gn)(t:S->G->(IK->G->Prop)->KX->Prop):TI:=λbC H R=>∃Z g ρ,k7 K ρ H Z bC/\Rl K ρ g H/\t Z g (λk g'=>∀bw H' J,Ext ρ H bw H'->Rl K bw g' H'->U3 K bw H' k J->R J H') (LX K ρ H Ξ)
def LG(K:PySem.W.Frag)(t:MT):TG:=λv bC H Q=>∃d Z g ρ,k7 K ρ H Z bC/\Rl K ρ g H/\d6 K ρ H d v/\je t d Z (λbD=>∀cP,k7 K ρ H bD cP->Q cP H)
def LN(K:PySem.W.Frag)(ρ:List Addr)(H:Hp)(N:L2.Ends):Ends where
 nx:=λbD g'=>∀bw H' cP,Ext ρ H bw H'->Rl K bw g' H'->k7 K bw H' bD cP->N.nx cP H'
 rt:=LQ K ρ H N.rt
 bk:=λbD g'=>∀bw H' cP,Ext ρ H bw H'->Rl K bw g' H'->k7 K bw H' bD cP->N.bk cP H'
 ct:=λbD g'=>∀bw H' cP,Ext ρ H bw H'->Rl K bw g' H'->k7 K bw H' bD cP->N.ct cP H'
def LS(K:PySem.W.Frag)(Ξ:gn)(t:Ends->S->G->KX->Prop):TS:=λN bC H=>∃Z g ρ,k7 K ρ H Z bC/\Rl K ρ g H/\t (LN K ρ H N) Z g (LX K ρ H Ξ)
end M
namespace L2
open PySem PySem.Spec PyProof.Rows
variable{t t':TT}
section
variable{X:Cx}{e:Expr}
theorem PE.imp{t t':TE}(h:PE X e t)(i:∀Z H Q,t' Z H Q->t Z H Q):PE X e t':=λpins s Z H Q I q=>h pins s Z H Q I (i Z H Q q)
theorem PT.imp(h:PT X e t)(i:∀Z H Q,t' Z H Q->t Z H Q):PT X e t':=λpins s Z H Q I q=>h pins s Z H Q I (i Z H Q q)
theorem PW.imp(h:PW X e t)(i:∀Z H Q,t' Z H Q->t Z H Q):PW X e t':=λw pins s Z H Q I q=>h w pins s Z H Q I (i Z H Q q)
theorem PA.imp{es:List Expr}{t t':TA}(h:PA X es t)(i:∀Z H Q,t' Z H Q->t Z H Q):PA X es t':=λp pins s Z H Q I q=>h p pins s Z H Q I (i Z H Q q)
theorem jU.imp{es:List Expr}(h:jU X es t)(i:∀Z H Q,t' Z H Q->t Z H Q):jU X es t':=λpins s Z H Q I q=>h pins s Z H Q I (i Z H Q q)
theorem PI.imp{tg:Expr}{t t':TI}(h:PI X tg e t)(i:∀Z H Q,t' Z H Q->t Z H Q):PI X tg e t':=λpins s Z H Q I q=>h pins s Z H Q I (i Z H Q q)
theorem PG.imp{t t':TG}(h:PG X e t)(i:∀v Z H Q,t' v Z H Q->t v Z H Q):PG X e t':=λpins s Z H v u Q I r q=>h pins s Z H v u Q I r (i v Z H Q q)
theorem PS.imp{st:Stmt}{t t':TS}(h:PS X st t)(i:∀N Z H,t' N Z H->t N Z H):PS X st t':=λpins s Z H N I q=>h pins s Z H N I (i N Z H q)
theorem ic.imp{st:List Stmt}{t t':TS}(h:ic X st t)(i:∀N Z H,t' N Z H->t N Z H):ic X st t':=λpins s Z H N I q=>h pins s Z H N I (i N Z H q)
end
end L2
namespace M
open PySem L2 PySem.Spec PyProof.Rows
variable{Ξ:gn}{P:eG}{op gC:CmpOp}{rest es:List Expr}{fB mo:ME}{p2 q apos iL:Pos}{o:Expr}
section
variable{K:PySem.W.Frag}(hP:i0 P){ρ fg:List Addr}{H H0:Hp}{Z:S}{bC:L2.St}{g:G}{m:ME}
include hP
theorem dY{Q0:KD}{Q:VK}(s:k7 K ρ H Z bC)(R:Rl K ρ g H)(e0:Ext fg H0 ρ H)(h:aP P m Z g Q0 (LX K fg H0 Ξ))(k:∀x g1 bB H1 v1,Ext ρ H bB H1->Rl K bB g1 H1->d6 K bB H1 x v1->Q0 x g1->Q v1 H1):LE K Ξ (aP P m) bC H Q :=
 ⟨Z,g,ρ,s,R,b7 hP m _ _ _ _ _ _ (λx g1 h bB H1 v1 e1 R1 r1=>k x g1 bB H1 v1 e1 R1 r1 h) (λ_ _ z=>LX.ext e0 z) h⟩
theorem iA{Q0:List D->G->Prop}{Q:List V->Hp->Prop}(s:k7 K ρ H Z bC)(R:Rl K ρ g H)(e0:Ext fg H0 ρ H)(h:eJ P m Z g Q0 (LX K fg H0 Ξ))(k:∀x g1 bB H1 v1,Ext ρ H bB H1->Rl K bB g1 H1->b6 K bB H1 x v1->Q0 x g1->Q v1 H1):LA K Ξ (eJ P m) bC H Q :=
 ⟨Z,g,ρ,s,R,s9 hP m _ _ _ _ _ _ (λx g1 h bB H1 v1 e1 R1 r1=>k x g1 bB H1 v1 e1 R1 r1 h) (λ_ _ z=>LX.ext e0 z) h⟩
theorem mQ{Q0:Bool->G->Prop}{Q:Bool->Hp->Prop}(s:k7 K ρ H Z bC)(R:Rl K ρ g H)(e0:Ext fg H0 ρ H)(h:da P m Z g Q0 (LX K fg H0 Ξ))(k:∀t g1 bB H1,Ext ρ H bB H1->Rl K bB g1 H1->Q0 t g1->Q t H1):LT K Ξ (da P m) bC H Q :=
 ⟨Z,g,ρ,s,R,k8 hP m _ _ _ _ _ _ (λt g1 h bB H1 e1 R1=>k t g1 bB H1 e1 R1 h) (λ_ _ z=>LX.ext e0 z) h⟩
theorem oY{ms:MS}{N:L2.Ends}{N0:Ends}(s:k7 K ρ H Z bC)(R:Rl K ρ g H)(e0:Ext fg H0 ρ H)(h:wpS P ms N0 Z g (LX K fg H0 Ξ))(k:N0.le (LN K ρ H N)):LS K Ξ (wpS P ms) N bC H :=
 ⟨Z,g,ρ,s,R,wpS_mono hP ms _ _ _ _ _ _ k (λ_ _ z=>LX.ext e0 z) h⟩
end
theorem b6.ku{K ρ H}(lo:Int)(n:Nat):b6 K ρ H (w6 lo n) ((List.range n).map λ(k:Nat)=>V.int (lo+k)):=by
 unfold w6;have:∀l:List Nat,b6 K ρ H (l.map λ(k:Nat)=>D.int (lo+k)) (l.map λ(k:Nat)=>V.int (lo+k)):=by
  intro l
  induction l with
  |nil=>exact .nil
  |cons x r ih=>exact .cons (.int _) ih
 exact this _
section
variable{X:Cx}(hP:i0 P){a b c e:Expr}{ma mb mc:ME}{pos:Pos}{p:Pr}
include hP
theorem xZ(h:PE X e (oZ (r2 X.K p) (LE X.K Ξ (aP P ma)) (LE X.K Ξ (aP P mb)))):PE X e (LE X.K Ξ (aP P (.prim p (.cons ma (.cons mb .nil))))) :=
 h.imp λbC H Q aV=>by
  obtain⟨Z,g,ρ,s,R,h⟩:=aV;exact dY hP s R (.refl _ _) h λx g1 bB H1 v1 e1 R1 r1 h=>dY hP (s.ext e1) R1 e1 h λy g2 dI H2 v2 e2 R2 r2 h =>
   ⟨x,y,g2,dI,R2,r1.ext e2,r2,n6 (λd g' h=>h.ext (e1.trans e2)) h⟩
theorem Kk(h:PT X e (zu (oZ (r2 X.K (.cmp op)) (LE X.K Ξ (aP P ma)) (LE X.K Ξ (aP P mb))))):PT X e (LT X.K Ξ (da P (.dA (.prim (.cmp op) (.cons ma (.cons mb .nil)))))) :=
 h.imp λbC H Q aV=>by
  obtain⟨Z,g,ρ,s,R,h⟩:=aV;refine dY hP s R (.refl _ _) h λx g1 bB H1 v1 e1 R1 r1 h=>dY hP (s.ext e1) R1 e1 h λy g2 dI H2 v2 e2 R2 r2 h=>?_;obtain⟨d',g',h,q⟩:=h;obtain⟨x',y',t,ex,hc,rfl,rfl⟩:=id h;refine⟨x,y,g',dI,R2,r1.ext e2,r2,_,_,h,λbw H' v e' R' r'=>?_⟩;obtain⟨t',ht,q⟩:=q;rcases ht with⟨z,_⟩|z|⟨i,z,_⟩|⟨l,z,_⟩|⟨a,l,z,_⟩<;>cases z
  exact⟨_,r'.L3,q bw H' (e1.trans (e2.trans e')) R'⟩
theorem QB{op:UnaryOp}(ha:PE X a (LE X.K Ξ (aP P ma))):PE X (.UnaryOp op a pos) (LE X.K Ξ (aP P (.prim (.un op) (.cons ma .nil)))) :=
 (Qn (Qh op) ha).imp λbC H Q aV=>by
  obtain⟨Z,g,ρ,s,R,h⟩:=aV;exact dY hP s R (.refl _ _) h λx g1 bB H1 v1 e1 R1 r1 h=>⟨x,g1,bB,R1,r1,n6 (λd g' h=>h.ext e1) h⟩
theorem FD:∀bC H Q,LE X.K Ξ (aP P (.chain op gC ma mb mc)) bC H Q->ya (r2 X.K (.cmp op)) (r2 X.K (.cmp gC)) (LE X.K Ξ (aP P ma)) (LE X.K Ξ (aP P mb)) (LE X.K Ξ (aP P mc)) bC H Q:=λbC H Q aV=>by
 obtain⟨Z,g,ρ,s,R,h⟩:=aV;refine dY hP s R (.refl _ _) h λx g1 bB H1 v1 e1 R1 r1 h=>dY hP (s.ext e1) R1 e1 h λy g2 dI H2 v2 e2 R2 r2 h=>?_;refine⟨x,y,g2,dI,R2,r1.ext e2,r2,n6 (λd g3 h gX H3 v3 e3 R3 r3=>?_) h⟩;obtain⟨t,rfl,h⟩:=h;obtain rfl:=r3.L3;refine⟨t,rfl,?_⟩;cases t
 ·exact h gX H3 _ (e1.trans (e2.trans e3)) R3 (.bl _)
 ·exact dY hP (s.ext (e1.trans (e2.trans e3))) R3 (e1.trans (e2.trans e3)) h λz g4 jY H4 v4 e4 R4 r4 h =>
   ⟨y,z,g4,jY,R4,r2.ext (e3.trans e4),r4,n6 (λd g' h=>h.ext (e1.trans (e2.trans (e3.trans e4)))) h⟩
theorem WA(hu:X.A.units+100<cLine)(ha:PE X a (LE X.K Ξ (aP P ma)))(hb:PE X b (LE X.K Ξ (aP P mb)))(hc:PE X c (LE X.K Ξ (aP P mc)))(hm:lastMarks [op,gC] [b,c]=false) :
  PE X (.Compare a [op,gC] [b,c] pos) (LE X.K Ξ (aP P (.chain op gC ma mb mc))):=(Wf (U9 hu op) (U9 hu gC) ha hb hc hm).imp (FD hP)
theorem Vv{Z:S}{g:G}{Q:Bool->G->Prop}{E:KX}(h:da P (.dA (.chain op gC ma mb mc)) Z g Q E):aP P (.chain op gC ma mb mc) Z g (λd g'=>∃t,d=.bl t/\Q t g') E:=by
 have one:∀{o:CmpOp} {xs:List D} {g:G},cG (.cmp o) xs g (λd g1=>nB g1 d λb=>Q b g1)->cG (.cmp o) xs g λd g'=>∃t,d=.bl t/\Q t g':=by
  intro o xs g h;obtain⟨d',g',h,t',ht,q⟩:=h;obtain⟨x',y',t,ex,hc,rfl,rfl⟩:=id h;refine⟨_,_,h,t',?_,q⟩;rcases ht with⟨z,_⟩|z|⟨i,z,_⟩|⟨l,z,_⟩|⟨a,l,z,_⟩<;>first|exact z|cases z
 refine b7 hP ma _ _ _ _ _ _ (λx g1 h=>b7 hP mb _ _ _ _ _ _ (λy g2 h=>n6 (λz g3 h=>?_) h) (λ_ _ z=>z) h) (λ_ _ z=>z) h;obtain⟨t,rfl,h⟩:=h;refine⟨t,rfl,?_⟩;cases t
 ·obtain⟨b,hb,q⟩:=(show nB g3 (.bl false) λb=>Q b g3 from h)
  rcases hb with⟨z,_⟩|z|⟨i,z,_⟩|⟨l,z,_⟩|⟨a,l,z,_⟩<;>first|(cases z;exact⟨_,rfl,q⟩)|cases z
 ·exact b7 hP mc _ _ _ _ _ _ (λw g4 h=>one h) (λ_ _ z=>z) h
theorem WQ(hu:X.A.units+100<cLine)(ha:PE X a (LE X.K Ξ (aP P ma)))(hb:PE X b (LE X.K Ξ (aP P mb)))(hc:PE X c (LE X.K Ξ (aP P mc)))(hm:lastMarks [op,gC] [b,c]=false) :
  PT X (.Compare a [op,gC] [b,c] pos) (LT X.K Ξ (da P (.dA (.chain op gC ma mb mc)))) :=
 (Ww (U9 hu op) (U9 hu gC) ha hb hc hm).imp λbC H Q ⟨Z,g,ρ,s,R,h⟩ =>
  FD hP bC H _ (dY hP s R (.refl _ _) (Vv hP h) λx g1 bB H1 v1 e1 R1 r1 h=>by
   obtain⟨t,rfl,h⟩:=h;exact ⟨t,r1.L3,h bB H1 e1 R1⟩)
theorem JS(ha:PE X a (LE X.K Ξ (aP P ma)))(hb:PE X (.BoolOp .And (b::rest) pos) (LE X.K Ξ (aP P mb))):PE X (.BoolOp .And (a::b::rest) pos) (LE X.K Ξ (aP P (.dk ma mb))) :=
 (Jp ha hb).imp λbC H Q aV=>by
  obtain⟨Z,g,ρ,s,R,h⟩:=aV;refine dY hP s R (.refl _ _) h λx g1 bB H1 v1 e1 R1 r1 h=>?_;obtain⟨t,rfl,h⟩:=h;refine⟨t,r1.L3,?_⟩;cases t
  ·exact h bB H1 _ e1 R1 (.bl _)
  ·exact dY hP (s.ext e1) R1 e1 h λy g2 dI H2 v2 e2 R2 r2 h=>h dI H2 v2 (e1.trans e2) R2 r2
theorem QA(ha:PE X a (LE X.K Ξ (aP P ma)))(hb:PE X (.BoolOp .Or (b::rest) pos) (LE X.K Ξ (aP P mb))):PE X (.BoolOp .Or (a::b::rest) pos) (LE X.K Ξ (aP P (.gK ma mb))) :=
 (Qm ha hb).imp λbC H Q aV=>by
  obtain⟨Z,g,ρ,s,R,h⟩:=aV;refine dY hP s R (.refl _ _) h λx g1 bB H1 v1 e1 R1 r1 h=>?_;obtain⟨t,rfl,h⟩:=h;refine⟨t,r1.L3,?_⟩;cases t
  ·exact dY hP (s.ext e1) R1 e1 h λy g2 dI H2 v2 e2 R2 r2 h=>h dI H2 v2 (e1.trans e2) R2 r2
  ·exact h bB H1 _ e1 R1 (.bl _)
theorem JY(ha:PE X a (LE X.K Ξ (aP P ma))):PE X (.UnaryOp .Not a pos) (LE X.K Ξ (aP P (.cJ ma))) :=
 (Jv ha).imp λbC H Q aV=>by
  obtain⟨Z,g,ρ,s,R,h⟩:=aV;refine dY hP s R (.refl _ _) h λx g1 bB H1 v1 e1 R1 r1 h=>?_;obtain⟨t,rfl,h⟩:=h;exact⟨t,r1.L3,h bB H1 _ e1 R1 (.bl _)⟩
theorem JX(hc:PT X c (LT X.K Ξ (da P mc)))(ha:PE X a (LE X.K Ξ (aP P ma)))(hb:PE X b (LE X.K Ξ (aP P mb))):PE X (.IfExp c a b pos) (LE X.K Ξ (aP P (.ite mc ma mb))) :=
 (Wi hc ha hb).imp λbC H Q aV=>by
  obtain⟨Z,g,ρ,s,R,h⟩:=aV;refine mQ hP s R (.refl _ _) h λt g1 bB H1 e1 R1 h=>?_;cases t
  ·exact dY hP (s.ext e1) R1 e1 h λy g2 dI H2 v2 e2 R2 r2 h=>h dI H2 v2 (e1.trans e2) R2 r2
  ·exact dY hP (s.ext e1) R1 e1 h λy g2 dI H2 v2 e2 R2 r2 h=>h dI H2 v2 (e1.trans e2) R2 r2
theorem JZ{k:Nat}(h:PA X es (LA X.K Ξ (eJ P fB))):PE X (.Tuple es k pos) (LE X.K Ξ (aP P (.prim .tup fB))) :=
 (Jx h).imp λbC H Q aV=>by
  obtain⟨Z,g,ρ,s,R,h⟩:=aV;refine iA hP s R (.refl _ _) h λds g1 bB H1 vs e1 R1 r1 h=>?_;obtain⟨d',g',⟨hz,rfl,rfl⟩,q⟩:=h;exact⟨by rw[<- r1.length];exact j7 (aL hz (by decide)),λp hp=>(q.ext e1).tup R1 hp r1⟩
theorem EE(h:PA X es (LA X.K Ξ (eJ P fB))):PE X (.List es pos) (LE X.K Ξ (aP P (.prim .lst fB))) :=
 (Jt h).imp λbC H Q aV=>by
  obtain⟨Z,g,ρ,s,R,h⟩:=aV;refine iA hP s R (.refl _ _) h λds g1 bB H1 vs e1 R1 r1 h=>?_;obtain⟨d',g',⟨hz,rfl,rfl⟩,q⟩:=h;exact⟨by rw[<- r1.length];exact j7 (aL hz (by decide)),λp hp=>(q.ext e1).new R1 hp r1⟩
theorem F9:PA X [] (LA X.K Ξ (eJ P .nil)) :=
 (U8 (X:=X)).imp λbC H Q aV=>by
  obtain⟨Z,g,ρ,s,R,h⟩:=aV;exact h ρ H [] (.refl _ _) R .nil
theorem w9(ha:PE X a (LE X.K Ξ (aP P ma)))(h:PA X es (LA X.K Ξ (eJ P fB)))(hs:starEach (a::es) X.env=(false,eval a X.env)::starEach es X.env):PA X (a::es) (LA X.K Ξ (eJ P (.cons ma fB))) :=
 (P0 ha h hs).imp λbC H Q aV=>by
  obtain⟨Z,g,ρ,s,R,h⟩:=aV;exact dY hP s R (.refl _ _) h λx g1 bB H1 v1 e1 R1 r1 h=>iA hP (s.ext e1) R1 e1 h λxs g2 dI H2 vs e2 R2 r2 h=>h dI H2 _ (e1.trans e2) R2 (.cons (r1.ext e2) r2)
theorem WJ(ha:PE X a (LE X.K Ξ (aP P ma))):PE X (.Subscript a (.Slice none none none p2) pos) (LE X.K Ξ (aP P (.prim (.jg false false) (.cons ma .nil)))) :=
 (yO zr ha uV uV).imp λbC H Q aV=>by
  obtain⟨Z,g,ρ,s,R,h⟩:=aV;refine dY hP s R (.refl _ _) h λx g1 bB H1 v1 e1 R1 r1 h=>?_;obtain⟨d',g',⟨x',ex,h⟩,q⟩:=h;cases ex;exact⟨x,g1,bB,d',g',R1,r1,h,q.ext e1⟩
theorem WL(ha:PE X a (LE X.K Ξ (aP P ma)))(hb:PE X b (LE X.K Ξ (aP P mb))):PE X (.Subscript a (.Slice (some b) none none p2) pos) (LE X.K Ξ (aP P (.prim (.jg true false) (.cons ma (.cons mb .nil))))) :=
 (yO zr ha (Fn hb) uV).imp λbC H Q aV=>by
  obtain⟨Z,g,ρ,s,R,h⟩:=aV;refine dY hP s R (.refl _ _) h λx g1 bB H1 v1 e1 R1 r1 h=>dY hP (s.ext e1) R1 e1 h λy g2 dI H2 v2 e2 R2 r2 h=>?_;obtain⟨d',g',⟨x',i,ex,h⟩,q⟩:=h;cases ex;exact⟨i,r2.j0,x,g2,dI,d',g',R2,r1.ext e2,h,q.ext (e1.trans e2)⟩
theorem WK(ha:PE X a (LE X.K Ξ (aP P ma)))(hb:PE X b (LE X.K Ξ (aP P mb))):PE X (.Subscript a (.Slice none (some b) none p2) pos) (LE X.K Ξ (aP P (.prim (.jg false true) (.cons ma (.cons mb .nil))))) :=
 (yO zr ha uV (Fn hb)).imp λbC H Q aV=>by
  obtain⟨Z,g,ρ,s,R,h⟩:=aV;refine dY hP s R (.refl _ _) h λx g1 bB H1 v1 e1 R1 r1 h=>dY hP (s.ext e1) R1 e1 h λy g2 dI H2 v2 e2 R2 r2 h=>?_;obtain⟨d',g',⟨x',i,ex,h⟩,q⟩:=h;cases ex;exact⟨i,r2.j0,x,g2,dI,d',g',R2,r1.ext e2,h,q.ext (e1.trans e2)⟩
theorem Kl(ha:PE X a (LE X.K Ξ (aP P ma)))(he:∀whole,isTrue a X.env whole=(do let v <- whole;standAt a.pos;holding [v] (truthy v))):PT X a (LT X.K Ξ (da P (.dA ma))) :=
 (Wx ha he).imp λbC H Q aV=>by
  obtain⟨Z,g,ρ,s,R,h⟩:=aV;refine dY hP s R (.refl _ _) h λx g1 bB H1 v1 e1 R1 r1 h=>?_;obtain⟨b,h1,h2⟩:=h;exact⟨b,KA R1 r1 h1,h2 bB H1 e1 R1⟩
theorem Kj(ha:PT X a (LT X.K Ξ (da P ma))):PT X (.UnaryOp .Not a pos) (LT X.K Ξ (da P (.cJ ma))) :=
 (JJ ha).imp λbC H Q aV=>by
  obtain⟨Z,g,ρ,s,R,h⟩:=aV;exact mQ hP s R (.refl _ _) h λt g1 bB H1 e1 R1 h=>h bB H1 e1 R1
theorem Kn(ha:PT X a (LT X.K Ξ (da P ma)))(hb:PW X (.BoolOp .And (b::rest) pos) (LT X.K Ξ (da P mb))):PW X (.BoolOp .And (a::b::rest) pos) (LT X.K Ξ (da P (.dk ma mb))) :=
 (JK ha hb).imp λbC H Q aV=>by
  obtain⟨Z,g,ρ,s,R,h⟩:=aV;refine mQ hP s R (.refl _ _) h λt g1 bB H1 e1 R1 h=>?_;cases t
  ·exact h bB H1 e1 R1
  ·exact mQ hP (s.ext e1) R1 e1 h λt g2 dI H2 e2 R2 h=>h dI H2 (e1.trans e2) R2
theorem QD(ha:PT X a (LT X.K Ξ (da P ma)))(hb:PW X (.BoolOp .Or (b::rest) pos) (LT X.K Ξ (da P mb))):PW X (.BoolOp .Or (a::b::rest) pos) (LT X.K Ξ (da P (.gK ma mb))) :=
 (Qq ha hb).imp λbC H Q aV=>by
  obtain⟨Z,g,ρ,s,R,h⟩:=aV;refine mQ hP s R (.refl _ _) h λt g1 bB H1 e1 R1 h=>?_;cases t
  ·exact mQ hP (s.ext e1) R1 e1 h λt g2 dI H2 e2 R2 h=>h dI H2 (e1.trans e2) R2
  ·exact h bB H1 e1 R1
theorem ML:jU X [] (LT X.K Ξ (da P .no)) :=
 (Ml (X:=X)).imp λbC H Q aV=>by
  obtain⟨Z,g,ρ,s,R,h⟩:=aV;exact h ρ H (.refl _ _) R
theorem JT{x:Str}{v:Value}(hv:(∃id,v=.builtin id)\/∃T,v=.type T)(hc:m5 X v (rN X.K p))(hg:Gl X x)(hm:X.mg x=none)(hb:bootBuiltins x=some v)(ha:PA X (e::es) (LA X.K Ξ (eJ P fB)))(hn:x≠"__name__")(hd:(x==("__debug__":Str))=false)(et:starEach (e::es) X.env=(false,eval e X.env)::starEach es X.env)(fK:(backTo pos (starEach es X.env)).any (·.1)=false):PE X (.Call (.Name x q) (e::es) [] pos) (LE X.K Ξ (aP P (.prim p fB))):=by
 have base:PE X (.Call (.Name x q) (e::es) [] pos) (vH (rN X.K p) (LA X.K Ξ (eJ P fB))):=by
  rcases hv with⟨id,rfl⟩|⟨T,rfl⟩
  ·exact X5 hc hg hm hb ha hn hd et fK
  ·exact N1 hc hg hm hb ha hn hd et fK
 refine base.imp λbC H Q aV=>?_;obtain⟨Z,g,ρ,s,R,h⟩:=aV;exact iA hP s R (.refl _ _) h λxs g1 bB H1 vs e1 R1 r1 h=>⟨xs,g1,bB,R1,r1,n6 (λd g' h=>h.ext e1) h⟩
theorem My{T:String}{name:Str}{id:String}(pa:PlainAttrs T)(slot:Slot T name id)(og:typeOf (.builtin id)=pure (.type "method_descriptor"))(hm:jV X id (rM X.K p))(hk:∀{d:D} {v:V} {g:G} {ρ:List Addr} {H:Hp},Rl X.K ρ g H->d6 X.K ρ H d v->mX p d g->mj X.K T v H)(ho:PE X o (LE X.K Ξ (aP P mo)))(ha:PA X (e::es) (LA X.K Ξ (eJ P fB)))(ft:attributeBase o name X.env (eval o X.env)=eval o X.env)(jF:((backTo pos (starEach (e::es) X.env)).all (λx=>!x.1)&&(backToKw pos (keywordEach [] X.env)).all (λx=>x.1.isSome)&&decide ((e::es).length+([]:List Keyword).length+(if([]:List Keyword).isEmpty then 0 else 1)<30))=true)(fq:(apos.endLine==pos.line)=true)(hs:starEach (e::es) X.env=(false,eval e X.env)::starEach es X.env)(dP:(backTo pos (starEach es X.env)).any (·.1)=false) :
  PE X (.Call (.Attribute o name apos) (e::es) [] pos) (LE X.K Ξ (aP P (.dS p mo fB))) :=
 (Qj pa slot og hm ho ha ft jF fq hs dP).imp λbC H Q aV=>by
  obtain⟨Z,g,ρ,s,R,h⟩:=aV;exact dY hP s R (.refl _ _) h λx g1 bB H1 v1 e1 R1 r1 h=>⟨hk R1 r1 h.1,iA hP (s.ext e1) R1 e1 h.2 λxs g2 dI H2 ws e2 R2 r2 h =>
   ⟨x,xs,g2,dI,R2,r1.ext e2,r2,n6 (λd g' h=>h.ext (e1.trans e2)) h⟩⟩
theorem WG{T:String}{name:Str}{id:String}(pa:PlainAttrs T)(slot:Slot T name id)(og:typeOf (.builtin id)=pure (.type "method_descriptor"))(hm:jV X id (rM X.K p))(hk:∀{d:D} {v:V} {g:G} {ρ:List Addr} {H:Hp},Rl X.K ρ g H->d6 X.K ρ H d v->mX p d g->mj X.K T v H)(ho:PE X o (LE X.K Ξ (aP P mo)))(ft:attributeBase o name X.env (eval o X.env)=eval o X.env)(fq:(apos.endLine==pos.line)=true) :
  PE X (.Call (.Attribute o name apos) [] [] pos) (LE X.K Ξ (aP P (.dS p mo .nil))) :=
 (Jq pa slot og hm ho ft fq).imp λbC H Q aV=>by
  obtain⟨Z,g,ρ,s,R,h⟩:=aV;exact dY hP s R (.refl _ _) h λx g1 bB H1 v1 e1 R1 r1 h=>⟨hk R1 r1 h.1,x,[],g1,bB,R1,r1,.nil,n6 (λd g' h=>h.ext e1) h.2⟩
omit hP in
theorem FI{K ρ H}{d:D}{v:V}(r:d6 K ρ H d v)(h:uk d=true):v=toV d/\K9 v=true:=by
 cases r with
 |aX=>exact⟨rfl,rfl⟩
 |bl _=>exact⟨rfl,rfl⟩
 |int _=>exact⟨rfl,rfl⟩
 |str _=>exact⟨rfl,rfl⟩
 |ty _=>exact absurd h bu
 |ref _=>exact absurd h bu
 |tup _ _=>exact absurd h bu
omit hP in
theorem Sk{K ρ H}{l:List D}{vs:List V}(r:b6 K ρ H l vs)(h:l.all uk=true):vs=l.map toV/\vs.all K9=true:=by
 induction l generalizing vs with
 |nil=>cases r;exact⟨rfl,rfl⟩
 |cons d l ih =>
  cases r with
  |cons rd rs =>
   rw[iW,aY] at h;obtain⟨e1,f1⟩:=FI rd h.1;obtain⟨e2,f2⟩:=ih rs h.2;subst e1 e2;exact⟨rfl,by rw[iW,f1,f2];rfl⟩
omit hP in
theorem De{K ρ H}{l:List D}{vs:List V}{y:D}{w:V}{n:Nat}(r:b6 K ρ H l vs)(ry:d6 K ρ H y w)(h:FP l y n):uK vs w n:=by
 obtain⟨h1,h2,⟨z,h3,h4⟩,h5⟩:=h;obtain⟨e1,f1⟩:=Sk r h1;obtain⟨e2,f2⟩:=FI ry h2;subst e1 e2;refine⟨f1,f2,⟨toV z,by rw[aA,h3];rfl,h4⟩,λm z' hm hz=>?_⟩;rw[aA,ae] at hz;obtain⟨Ge,hz,rfl⟩:=hz;exact h5 m Ge hm hz
theorem WB(ho:PE X o (LE X.K Ξ (aP P mo)))(ha:PA X (e::es) (LA X.K Ξ (eJ P fB)))(ft:attributeBase o "index" X.env (eval o X.env)=eval o X.env)(jF:((backTo pos (starEach (e::es) X.env)).all (λx=>!x.1)&&(backToKw pos (keywordEach [] X.env)).all (λx=>x.1.isSome)&&decide ((e::es).length+([]:List Keyword).length+(if([]:List Keyword).isEmpty then 0 else 1)<30))=true)(fq:(apos.endLine==pos.line)=true)(hs:starEach (e::es) X.env=(false,eval e X.env)::starEach es X.env)(dP:(backTo pos (starEach es X.env)).any (·.1)=false) :
  PE X (.Call (.Attribute o "index" apos) (e::es) [] pos) (LE X.K Ξ (aP P (.dS .index mo fB))) :=
 (Wj ho ha ft jF fq hs dP).imp λbC H Q aV=>by
  obtain⟨Z,g,ρ,s,R,h⟩:=aV;refine dY hP s R (.refl _ _) h λx g1 bB H1 v1 e1 R1 r1 h=>?_;obtain⟨hk,h⟩:=h;rcases hk with⟨l,rfl⟩|⟨a,l,rfl,hl⟩
  ·obtain⟨a',vs,rfl,ta,rs⟩:=r1.A9;refine .inr ⟨a',vs,rfl,ta.d,iA hP (s.ext e1) R1 e1 h λxs g2 dI H2 ws e2 R2 r2 h=>?_⟩;obtain⟨d',g',⟨x,y,l',n,ex,hi,W,hz,rfl,rfl⟩,q⟩:=h;cases ex;cases hi;obtain⟨w,rfl,eO⟩:=r2.one;exact⟨a',vs,w,n,rfl,rfl,(ta.ext e2).sq,De (rs.ext e2) eO W,(q.ext (e1.trans e2)).now R2 (.int n)⟩
  ·obtain⟨a',rfl,ra⟩:=r1.i9;obtain⟨vs,hq,_⟩:=R1.items hl ra;refine .inl ⟨a',vs,rfl,hq,iA hP (s.ext e1) R1 e1 h λxs g2 dI H2 ws e2 R2 r2 h=>?_⟩;obtain⟨d',g',⟨x,y,l',n,ex,hi,W,hz,rfl,rfl⟩,q⟩:=h;cases ex;obtain⟨w,rfl,eO⟩:=r2.one;obtain⟨mP,Hc,kO⟩:=R2.items (show c8 _ a=some l' from hi) (e2.get ra);have hn:n<2 ^ 62:=by
    obtain⟨_,_,⟨z,AM,_⟩,_⟩:=W;have:=(az.mp AM).1;omega
   exact⟨a',mP,w,n,rfl,rfl,Hc,De kO eO W,hn,(q.ext (e1.trans e2)).now R2 (.int n)⟩
theorem WC(hc:X.calm=true)(ha:PE X a (LE X.K Ξ (aP P ma)))(lp:Gl X "list")(mD:X.mg "list"=none)(hg:Gl X "range")(hm:X.mg "range"=none)(hs:starEach [a] X.env=[(false,eval a X.env)]) :
  PE X (.Call (.Name "list" p2) [.Call (.Name "range" q) [a] [] pos] [] iL) (LE X.K Ξ (aP P (.prim .kT (.cons ma .nil)))) :=
 (N1 (Eh hc) lp mD (by first|exact eB|decide +kernel) (P0 (SR hg hm (w9 hP ha (F9 hP) (by rw[hs];rfl)) hs) U8)).imp λbC H Q aV=>by
  obtain⟨Z,g,ρ,s,R,h⟩:=aV;refine iA hP s R (.refl _ _) h λxs g1 bB H1 vs e1 R1 r1 h=>?_;obtain⟨d',g',⟨j,rfl,h1,h2,rfl,rfl⟩,q⟩:=h;obtain⟨v,rfl,rv⟩:=r1.one;obtain rfl:=rv.j0;refine⟨j,rfl,λq' hq=>⟨q',0,j,rfl,m6,⟨by omega,by omega,h1,by omega,by omega⟩,λp hp=>?_⟩⟩;rw[show(j-0).toNat=j.toNat by omega];exact(q.ext (e1.trans (q9 hq))).new (R1.grow hq) hp (b6.ku 0 _)
theorem WD(hc:X.calm=true)(ha:PE X a (LE X.K Ξ (aP P ma)))(hb:PE X b (LE X.K Ξ (aP P mb)))(lp:Gl X "list")(mD:X.mg "list"=none)(hg:Gl X "range")(hm:X.mg "range"=none)(hs:starEach [a,b] X.env=[(false,eval a X.env),(false,eval b X.env)])(hX:starEach [b] X.env=[(false,eval b X.env)]) :
  PE X (.Call (.Name "list" p2) [.Call (.Name "range" q) [a,b] [] pos] [] iL) (LE X.K Ξ (aP P (.prim .kS (.cons ma (.cons mb .nil))))) :=
 (N1 (Eh hc) lp mD (by first|exact eB|decide +kernel) (P0 (SS hg hm (w9 hP ha (w9 hP hb (F9 hP) (by rw[hX];rfl)) (by rw[hs,hX])) hs hX) U8)).imp λbC H Q aV=>by
  obtain⟨Z,g,ρ,s,R,h⟩:=aV;refine iA hP s R (.refl _ _) h λxs g1 bB H1 vs e1 R1 r1 h=>?_;obtain⟨d',g',⟨i,j,rfl,hb,rfl,rfl⟩,q⟩:=h;obtain⟨v,w,rfl,rv,eO⟩:=r1.two;obtain rfl:=rv.j0;obtain rfl:=eO.j0;exact⟨i,j,rfl,λq' hq=>⟨q',i,j,rfl,m6,hb,λp hp=>(q.ext (e1.trans (q9 hq))).new (R1.grow hq) hp (b6.ku i _)⟩⟩
theorem MA(hc:X.calm=true)(ha:PE X a (LE X.K Ξ (aP P ma)))(lp:Gl X "sorted")(mD:X.mg "sorted"=none)(hg:Gl X "set")(hm:X.mg "set"=none)(hs:starEach [a] X.env=[(false,eval a X.env)]) :
  PE X (.Call (.Name "sorted" p2) [.Call (.Name "set" q) [a] [] pos] [] iL) (LE X.K Ξ (aP P (.prim .sset (.cons ma .nil)))) :=
 (X5 (T3 hc) lp mD (by first|exact fY|decide +kernel) (P0 (N1 (Ee hc) hg hm (by first|exact tH|decide +kernel) (w9 hP ha (F9 hP) (by rw[hs];rfl)) (by decide) (by decide) (by rw[hs];rfl) rfl) U8)).imp λbC H Q aV=>by
  obtain⟨Z,g,ρ,s,R,h⟩:=aV;refine iA hP s R (.refl _ _) h λxs g1 bB H1 vs e1 R1 r1 h=>?_;obtain⟨d',g',⟨i,ns,rfl,hl,hz,rfl,rfl⟩,q⟩:=h;obtain⟨v,rfl,rv⟩:=r1.one;obtain⟨a',rfl,ra⟩:=rv.i9;obtain⟨ws,hq,rs⟩:=R1.items hl ra;obtain rfl:=rs.ints;refine⟨_,ns,rfl,hq,hz,λq' kY=>⟨q',ns,rfl,m6,hz,λp hp=>?_⟩⟩;exact(q.ext (e1.trans (q9 kY))).new (R1.grow kY) hp (b6.ofInts _)
theorem Mw(hc:X.calm=true)(ha:PE X a (LE X.K Ξ (aP P ma)))(lp:Gl X "len")(mD:X.mg "len"=none)(hg:Gl X "set")(hm:X.mg "set"=none)(hs:starEach [a] X.env=[(false,eval a X.env)]) :
  PE X (.Call (.Name "len" p2) [.Call (.Name "set" q) [a] [] pos] [] iL) (LE X.K Ξ (aP P (.prim .Q5 (.cons ma .nil)))) :=
 (X5 Rp lp mD PySem.boot_len (P0 (N1 (Ee hc) hg hm (by first|exact tH|decide +kernel) (w9 hP ha (F9 hP) (by rw[hs];rfl)) (by decide) (by decide) (by rw[hs];rfl) rfl) U8)).imp λbC H Q aV=>by
  obtain⟨Z,g,ρ,s,R,h⟩:=aV;refine iA hP s R (.refl _ _) h λxs g1 bB H1 vs e1 R1 r1 h=>?_;obtain⟨d',g',⟨i,ns,rfl,hl,hz,rfl,rfl⟩,q⟩:=h;obtain⟨v,rfl,rv⟩:=r1.one;obtain⟨a',rfl,ra⟩:=rv.i9;obtain⟨ws,hq,rs⟩:=R1.items hl ra;obtain rfl:=rs.ints;refine⟨_,ns,rfl,hq,hz,λq' kY=>⟨q',_,rfl,m6,?_⟩⟩;exact(q.ext (e1.trans (q9 kY))).now (R1.grow kY) (.int _)
theorem Mz{i:Int}{j:Nat}(lx:PySem.W.kdsCode X.K X.env.code=true):PE X (.Set [.Constant (.int i) j q] 0 pos) (LE X.K Ξ (aP P (.prim (.jL i) .nil))) :=
 (Mb lx).imp λbC H Q aV=>by
  obtain⟨Z,g,ρ,s,R,h⟩:=aV;obtain⟨d',g',⟨_,rfl,rfl⟩,q⟩:=h;exact λp hp=>q (ρ++[p]) _ _ (A7 hp) (R.new hp (o:=.set (λk=>decide (k=i)) 1) (u:=.set (λk=>decide (k=i)) 1) ⟨rfl,rfl⟩) (.ref (R.t6 p))
theorem JV{f:Str}(ha:PE X a (LE X.K Ξ (aP P ma)))(hb:attributeBase a f X.env (eval a X.env)=eval a X.env):PE X (.Attribute a f pos) (LE X.K Ξ (aP P (.prim (.fld f) (.cons ma .nil)))) :=
 (Jr ha hb).imp λbC H Q aV=>by
  obtain⟨Z,g,ρ,s,R,h⟩:=aV;refine dY hP s R (.refl _ _) h λx g1 bB H1 v1 e1 R1 r1 h=>?_;obtain⟨d',g',⟨i,c,fs,ex,hi,hf,rfl⟩,q⟩:=h;cases ex;obtain⟨a',rfl,ra⟩:=r1.i9;obtain⟨C,dx,vs,hH,_,hC,rk,na⟩:=R1.ins hi ra;have lk:=rk.look f;rw[hf] at lk;obtain⟨v,hv,rv⟩:=lk.some;exact⟨a',C,dx,vs,v,rfl,hH,hC,na _ (aH hf),hv,q bB H1 v e1 R1 rv⟩
end
section
variable{X:Cx}{pos:Pos}
theorem J'{i:Nat}{x:Str}(hN:X.N[i]?=some x)(hv:sY X.env.scope x)(hd:(x==("__debug__":Str))=false)(kh:(x==("__classdict__":Str))=false):PE X (.Name x pos) (LE X.K Ξ (aP P (.var i))) :=
 (Jy hN hv hd kh).imp λbC H Q aV=>by
  obtain⟨Z,g,ρ,s,R,h⟩:=aV;obtain⟨d,e,h⟩:=h;obtain⟨v,h1,h2⟩:=s.val _ _ e;exact⟨v,h1,h.now R h2⟩
theorem P8{e:Expr}{d:D}{v:V}(h:PE X e (tC v))(r:∀ρ H,d6 X.K ρ H d v):PE X e (LE X.K Ξ (aP P (.lit d))) :=
 h.imp λbC H Q aV=>by
  obtain⟨Z,g,ρ,s,R,h⟩:=aV;exact LQ.now h R (r ρ H)
theorem Mt:PE X (.Dict [] [] pos) (LE X.K Ξ (aP P (.prim .N8 .nil))) :=
 (Wh (X:=X)).imp λbC H Q ⟨Z,g,ρ,s,R,h⟩ p hp=>by
  obtain⟨d',g',⟨_,rfl,rfl⟩,q⟩:=h;exact q (ρ++[p]) _ _ (A7 hp) (R.new hp (o:=.bX []) (u:=.dK []) i7.nil) (.ref (R.t6 p))
end
end M
namespace L2
open PySem PySem.Spec PyProof.Rows
section
variable{X:Cx}{m:Str}{pos apos:Pos}{e o:Expr}{es:List Expr}{ta:TE}{t:TA}
def Ku(X:Cx)(m:Str)(E:XK)(ta:TE)(t:TA):TE:=λZ H Q=>ta Z H λx H1=>∃a C dx fs f fd ps k sp,x=.ref a/\H1 a=some (.ins C dx fs)/\fs.lookup m=none/\ie X.K C/\Meth X.K C m f /\
 fR X.prog X.w X.K X.mg X.base (gg X.prog X.w) k f fd ps sp/\n8 k X.A/\Binds X.K fd ps []/\t Z H1 λvs H2=>sp (x::(vs++[])) H2 Q E
theorem Wl{pl:Sem Bool}{E:XK}(he:PE X o ta)(hx:Passes (gg X.prog X.w) X E)(ha:PA X (e::es) t)(et:starEach (e::es) X.env=(false,eval e X.env)::starEach es X.env)(fK:(backTo pos (starEach es X.env)).any (·.1)=false)(ht:eval (.Call (.Attribute o m apos) (e :: es) [] pos) X.env=(do
   let ov <- eval o X.env
   standAt apos.atName
   let (f,first) <- holding [ov] (getMethod ov m pl)
   callWith pos f first (backTo pos (starEach (e :: es) X.env)) (backToKw pos (keywordEach [] X.env)))) :
  PE X (.Call (.Attribute o m apos) (e::es) [] pos) (Ku X m E ta t):=by
 intro pins s Z H Q I h;refine tE (pl:=pl) (cb (he pins s Z H _ I h) λu s1 aV=>?_) ht;obtain⟨x,H1,I1,rx,a,C,dx,fs,f,fd,ps,k,sp,ex,ea,l,c,hm,F,hr,hb,q⟩:=aV;subst ex;obtain rfl:u=Value.ref a:=rx;refine DI I1 ea c hm l ?_;refine iZ (first:=[.ref a]) (h₀:=X.base) I.ok.mod.kU hm.kp (cb (ha pos pins s1 Z H1 _ I1 q) λus s2 ⟨vs,H2,I2,r,q2⟩=>⟨I2.fm,?_⟩) et fK;exact uG (us:=.ref a::us) (vs:=.ref a::vs) F hr hb .nil hx I2 (.cons rfl r) q2
def MQ(X:Cx)(m:Str)(E:XK)(ta:TE):TE:=λZ H Q=>ta Z H λx H1=>∃a C dx fs f fd ps k sp,x=.ref a/\H1 a=some (.ins C dx fs)/\fs.lookup m=none/\ie X.K C/\Meth X.K C m f /\
 fR X.prog X.w X.K X.mg X.base (gg X.prog X.w) k f fd ps sp/\n8 k X.A/\Binds X.K fd ps []/\sp [x] H1 Q E
theorem SQ{pl:Sem Bool}{E:XK}(he:PE X o ta)(hx:Passes (gg X.prog X.w) X E)(ht:eval (.Call (.Attribute o m apos) [] [] pos) X.env=(do
   let ov <- eval o X.env
   standAt apos.atName
   let (f,first) <- holding [ov] (getMethod ov m pl)
   callWith pos f first (backTo pos (starEach [] X.env)) (backToKw pos (keywordEach [] X.env)))) :
  PE X (.Call (.Attribute o m apos) [] [] pos) (MQ X m E ta):=by
 intro pins s Z H Q I h;refine tE (pl:=pl) (cb (he pins s Z H _ I h) λu s1 aV=>?_) ht;obtain⟨x,H1,I1,rx,a,C,dx,fs,f,fd,ps,k,sp,ex,ea,l,c,hm,F,hr,hb,q⟩:=aV;subst ex;obtain rfl:u=Value.ref a:=rx;refine DI I1 ea c hm l ?_;exact iG (first:=[.ref a]) I1.fm hm.kp (uG (us:=[.ref a]) (vs:=[.ref a]) (dvs:=[]) F hr hb .nil hx I1 (.cons rfl .nil) q)
end
end L2
namespace M
open PySem L2 PySem.Spec PyProof.Rows
variable{K:PySem.W.Frag}{H H0:Hp}{neg:Bool}{a fa C:Addr}{x:Str}{p:Pos}{kvs xs:List D}{k f j:Nat}{fd:FuncData}{ps:List Str}{fg:List Addr}{vs:List V}{es:List Expr}{e:Expr}{fB:ME}
inductive ny(K:PySem.W.Frag):List D->List (Str×V)->Prop
 |nil:ny K [] []
 |cons {x:Str} {d:D} {v:V} {ds:List D} {vs:List (Str×V)} (h:∀ρ H,d6 K ρ H d v) (r:ny K ds vs):ny K (.tup [.str x,d]::ds) ((x,v)::vs)
theorem ny.look{ρ:List Addr}{ds vs}(x:Str)(h:ny K ds vs):Z9 K ρ H (M7 ds x) (vs.lookup x):=by
 induction h with
 |nil=>trivial
 |cons h r ih =>
  rename_i y d v ds vs;unfold M7;rw[cv];by_cases e:x=y
  ·rw[aJ e,show(x==y)=true from by simp[e]];exact h ρ H
  ·rw[aB e,show(x==y)=false from by simpa using e];exact ih
def ue(X:Cx)(x:Str)(kvs:List D):Prop:=∃A vs,X.mg x=some (.ref A)/\sv X.K X.w.params A vs/\ny X.K kvs vs
def uo(neg:Bool):Pr:=if neg then .rQ else .Bl
theorem EW:PR (uo neg)=zM neg:=by cases neg<;>rfl
theorem Tj(a b c:Str):a++b++c=a++(b++c):=by
 cases a;cases b;cases c;show Str.mk _=Str.mk _;exact dM Str.mk (Gb ..)
theorem MK(x:Str):x++Str.empty=x:=by cases x;show Str.mk _=_;simp[Str.empty]
theorem LF(x:Str):Str.empty++x=x:=by cases x;show Str.mk _=_;simp[Str.empty]
section
variable{X:Cx}{Ξ:gn}{P:eG}(hP:i0 P){a c:Expr}{ma:ME}{pos:Pos}
include hP
theorem JW(hg:Gl X x)(hd:(x==("__debug__":Str))=false)(hG:ue X x kvs)(ha:PE X a (LE X.K Ξ (aP P ma)))(hm:behindInMarks (if neg then .NotIn else .In) (.Name x p)=false) :
  PE X (.Compare a [if neg then .NotIn else .In] [.Name x p] pos) (LE X.K Ξ (aP P (.prim (uo neg) (.cons (.lit (.tup kvs)) (.cons ma .nil))))):=by
 obtain⟨A,vs,hmg,hk,gr⟩:=hG;refine(Fj (Ey (kvs:=vs) neg) ha (uU (v:=.ref A) hg hmg rfl hd) hm).imp λbC H Q aV=>?_;obtain⟨Z,g,ρ,s,R,h⟩:=aV;refine dY hP s R (.refl _ _) h λd g1 bB H1 v1 e1 R1 r1 h=>?_;obtain⟨d',g',h,q⟩:=h;rw[EW] at h;obtain⟨qH,z,ex,rfl,rfl⟩:=h;cases ex;obtain rfl:=r1.B0;refine⟨A,z,rfl,hk,rfl,?_⟩;rw[<- (gr.look (ρ:=bB) (H:=H1) z).isSome];exact q bB H1 _ e1 R1 (.bl _)
theorem Ki(hg:Gl X x)(hd:(x==("__debug__":Str))=false)(hG:ue X x kvs)(ha:PE X a (LE X.K Ξ (aP P ma)))(hm:behindInMarks (if neg then .NotIn else .In) (.Name x p)=false) :
  PT X (.Compare a [if neg then .NotIn else .In] [.Name x p] pos) (LT X.K Ξ (da P (.dA (.prim (uo neg) (.cons (.lit (.tup kvs)) (.cons ma .nil)))))):=by
 obtain⟨A,vs,hmg,hk,gr⟩:=hG;refine(Fo (Ey (kvs:=vs) neg) ha (uU (v:=.ref A) hg hmg rfl hd) hm).imp λbC H Q aV=>?_;obtain⟨Z,g,ρ,s,R,h⟩:=aV;refine dY hP s R (.refl _ _) h λd g1 bB H1 v1 e1 R1 r1 h=>?_;obtain⟨d',g',h,t,ht,q⟩:=h;rw[EW] at h;obtain⟨qH,z,ex,rfl,rfl⟩:=h;cases ex;obtain rfl:=r1.B0;refine⟨A,z,rfl,hk,rfl,t,?_,q bB H1 e1 R1⟩;rw[<- (gr.look (ρ:=bB) (H:=H1) z).isSome];rcases ht with⟨z,_⟩|z|⟨i,z,_⟩|⟨l,z,_⟩|⟨a,l,z,_⟩<;>cases z
 rfl
theorem Mv(hg:Gl X x)(hd:(x==("__debug__":Str))=false)(hG:ue X x kvs)(ha:PE X a (LE X.K Ξ (aP P ma)))(hs:yk a):PE X (.Subscript (.Name x p) a pos) (LE X.K Ξ (aP P (.prim .lB (.cons (.lit (.tup kvs)) (.cons ma .nil))))):=by
 obtain⟨A,vs,hmg,hk,gr⟩:=hG;refine(Cj (Py (kvs:=vs)) (uU (v:=.ref A) hg hmg rfl hd) ha hs).imp λbC H Q aV=>?_;obtain⟨Z,g,ρ,s,R,h⟩:=aV;refine dY hP s R (.refl _ _) h λd g1 bB H1 v1 e1 R1 r1 h=>?_;obtain⟨d',g',⟨qH,z,ex,hz,rfl⟩,q⟩:=h;cases ex;obtain rfl:=r1.B0;have lk:=gr.look (ρ:=bB) (H:=H1) z;rw[hz] at lk;obtain⟨w,hw,lk⟩:=lk.some;exact⟨A,z,w,rfl,hk,rfl,hw,q bB H1 _ e1 R1 lk⟩
theorem Qz(ha:PE X a (LE X.K Ξ (aP P ma))):PE X (.FormattedValue a (-1) none pos) (LE X.K Ξ (aP P (.prim .fv (.cons ma .nil)))) :=
 (Qk ha).imp λbC H Q aV=>by
  obtain⟨Z,g,ρ,s,R,h⟩:=aV;refine dY hP s R (.refl _ _) h λd g1 bB H1 v1 e1 R1 r1 h=>?_;obtain⟨d',g',⟨rfl,h⟩,q⟩:=h;rcases h with⟨i,ex,h1,rfl⟩|⟨z,ex,h1,rfl⟩
  ·cases ex;exact .inl ⟨i,r1.j0,h1,q bB H1 _ e1 R1 (.str _)⟩
  ·cases ex;exact .inr ⟨z,r1.B0,j7 (by omega),q bB H1 _ e1 R1 (.str _)⟩
omit hP in
inductive kC(X:Cx)(Ξ:gn)(P:eG):List Expr->ME->List TE->Prop
 |nil:kC X Ξ P [] .nil []
 |lit {x:Str} {j:Nat} {p:Pos} {es:List Expr} {ms:ME} {ts:List TE} (hx:x.length<=2000) (r:kC X Ξ P es ms ts):kC X Ξ P (.Constant (.str x) j p::es) (.cons (.lit (.str x)) ms) (LE X.K Ξ (aP P (.lit (.str x)))::ts)
 |val {e:Expr} {m:ME} {p:Pos} {es:List Expr} {ms:ME} {ts:List TE} (he:PE X e (LE X.K Ξ (aP P m))) (r:kC X Ξ P es ms ts):kC X Ξ P (.FormattedValue e (-1) none p::es) (.cons (.prim .fv (.cons m .nil)) ms) (LE X.K Ξ (aP P (.prim .fv (.cons m .nil)))::ts)
theorem kC.GD{es ms ts}(h:kC X Ξ P es ms ts):pZ X es ts:=by
 induction h with
 |nil=>exact .nil
 |lit hx r ih=>exact .cons (P8 Ez λ_ _=>.str _) ih
 |val he r ih=>exact .cons (Qz hP he) ih
theorem kC.join{bC:L2.St}{Q:Str->Hp->Prop}{es ms ts}(hf:kC X Ξ P es ms ts):∀{Z:S} {g:G} {ρ:List Addr} {H:Hp} {acc:Str},acc.length+2000*es.length<=100000->k7 X.K ρ H Z bC->Rl X.K ρ g H ->
  eJ P ms Z g (λds g1=>∃x,Y6 ds=some x/\∀bw H',Ext ρ H bw H'->Rl X.K bw g1 H'->Q (acc++x) H') (LX X.K ρ H Ξ)->uz ts bC H acc (λout H1=>out.length<=sizeLine/\Q out H1):=by
 have tl:∀{acc y:Str} {ρ:List Addr} {H:Hp} {bB:List Addr} {H1:Hp} {ds:List D} {g1:G},Ext ρ H bB H1->(∃x,Y6 (.str y::ds)=some x/\∀bw H',Ext ρ H bw H'->Rl X.K bw g1 H'->Q (acc++x) H')->∃x,Y6 ds=some x/\∀bw H',Ext bB H1 bw H'->Rl X.K bw g1 H'->Q (acc++y++x) H':=by
  intro acc y ρ H bB H1 ds g1 e1 h;obtain⟨x,hx,h⟩:=h;simp only[Y6] at hx;cases hj:Y6 ds with
  |none=>rw[hj] at hx;cases hx
  |some x' =>
   rw[hj] at hx;cases hx;refine⟨x',rfl,λbw H' e' R'=>?_⟩;rw[Tj];exact h bw H' (e1.trans e') R'
 induction hf with
 |nil =>
  intro Z g ρ H acc ha s R h;obtain⟨x,hx,h⟩:=h;cases hx;rw[MK] at h;exact⟨j7 (by simpa using ha),h ρ H (.refl _ _) R⟩
 |lit hx r ih =>
  rename_i y j p es ms ts;intro Z g ρ H acc ha s R h;refine⟨Z,g,ρ,s,R,?_⟩;intro bB H1 v1 e1 R1 r1;obtain rfl:=r1.B0;have hl:(acc++y).length<=acc.length+2000:=by rw[strLen_append];omega
  simp only[List.length_cons] at ha;exact⟨y,rfl,j7 (by omega),ih (by omega) (s.ext e1) R1 (s9 hP _ _ _ _ _ _ _ (λds g1 h=>tl e1 h) (λ_ _ z=>LX.ext e1 z) h)⟩
 |val he r ih =>
  rename_i e m p es ms ts;intro Z g ρ H acc ha s R h;refine⟨Z,g,ρ,s,R,?_⟩;simp only[List.length_cons] at ha;refine b7 hP m _ _ _ _ _ _ (λd g1 h=>?_) (λ_ _ z=>z) h;obtain⟨d',g',⟨rfl,h⟩,q⟩:=h;have hy:∃y,d'=.str y/\y.length<=2000:=by
   rcases h with⟨i,ex,h1,rfl⟩|⟨z,ex,h1,rfl⟩
   ·exact⟨_,rfl,by rw[PySem.ofString_length];have:=int_text_length_le (k:=1920) (by decide) h1;omega⟩
   ·exact⟨z,rfl,h1⟩
  obtain⟨y,rfl,hy⟩:=hy;refine⟨_,_,⟨rfl,h⟩,λbB H1 v1 e1 R1 r1=>?_⟩;obtain rfl:=r1.B0;have hl:(acc++y).length<=acc.length+2000:=by rw[strLen_append];omega
  exact⟨y,rfl,j7 (by omega),ih (by omega) (s.ext e1) R1 (s9 hP _ _ _ _ _ _ _ (λds g1 h=>tl e1 h) (λ_ _ z=>LX.ext e1 z) q)⟩
theorem Mu{ka jZ:Expr}{rest:List Expr}{ms:ME}{ts:List TE}(h:kC X Ξ P (ka::jZ::rest) ms ts)(hl:(ka::jZ::rest).length<=40):PE X (.JoinedStr (ka::jZ::rest) pos) (LE X.K Ξ (aP P (.prim .lC ms))) :=
 (L' (h.GD hP)).imp λbC H Q aV=>by
  obtain⟨Z,g,ρ,s,R,hw⟩:=aV;refine kC.join hP h (Q:=λout H1=>Q (.str out) H1) (acc:=Str.empty) ?_ s R (s9 hP ms _ _ _ _ _ _ (λds g1 hw=>?_) (λ_ _ z=>z) hw)
  ·have:Str.empty.length=0:=rfl;omega
  ·obtain⟨d',g',⟨x,hx,rfl,rfl⟩,q⟩:=hw;refine⟨x,hx,λbw H' e' R'=>?_⟩;rw[LF];exact q bw H' _ e' R' (.str _)
omit hP in
def mU(ex:List Str)(K:PySem.W.Frag)(n:Nat)(t:List D->G->KD->KX->Prop):Sp:=λvs H Q E=>vs.length=n/\∃ds g ρ,b6 K ρ H ds vs/\Rl K ρ g H/\t ds g (LQ K ρ H Q) (LX K ρ H (ex,E))
omit hP in
def lT(X:Cx)(P:eG)(ex:List Str)(k f:Nat)(fa:Addr)(fd:FuncData)(ps:List Str):Prop :=
 fR X.prog X.w X.K X.mg X.base (gg X.prog X.w) k fa fd ps (mU ex X.K ps.length (P f))/\Binds X.K fd ps []/\∀ds g Q E,P f ds g Q E->ds.length=ps.length
theorem sL{k:Nat}(F:lT X P Ξ.1 k f fa fd ps){ρ:List Addr}{g:G}{Q0:KD}{Q:VK}(e0:Ext fg H0 ρ H)(R:Rl X.K ρ g H)(r:b6 X.K ρ H xs vs)(h:P f xs g Q0 (LX X.K fg H0 Ξ))(k:∀d g',Q0 d g'->LQ X.K ρ H Q d g'):mU Ξ.1 X.K ps.length (P f) (vs++[]) H Q Ξ.2:=by
 rw[eY];exact⟨by rw[<- r.length];exact F.2.2 _ _ _ _ h,xs,g,ρ,r,R,hP _ _ _ _ _ _ _ k (λ_ _ z=>LX.ext e0 z) h⟩
theorem Mr(hx:Passes (gg X.prog X.w) X Ξ.2)(F:lT X P Ξ.1 k f fa fd ps)(hr:n8 k X.A)(hg:Gl X x)(hm:X.mg x=some (.ref fa))(hk:PySem.W.keepIn X.K (.ref fa)=true)(ha:PA X (e::es) (LA X.K Ξ (eJ P fB)))(hd:(x==("__debug__":Str))=false)(et:starEach (e::es) X.env=(false,eval e X.env)::starEach es X.env)(fK:(backTo pos (starEach es X.env)).any (·.1)=false):PE X (.Call (.Name x p) (e::es) [] pos) (LE X.K Ξ (aP P (.call f fB))) :=
 (LY F.1 hr hg hm hk F.2.1 .nil hx ha hd et fK).imp λbC H Q aV=>by
  obtain⟨Z,g,ρ,s,R,h⟩:=aV;exact iA hP s R (.refl _ _) h λxs g1 bB H1 vs e1 R1 r1 h=>sL hP F e1 R1 r1 h λd g' h=>h.ext e1
theorem Wz(hx:Passes (gg X.prog X.w) X Ξ.2)(F:lT X P Ξ.1 k f fa fd ps)(hr:n8 k X.A)(hg:Gl X x)(hm:X.mg x=some (.ref fa))(hk:PySem.W.keepIn X.K (.ref fa)=true)(hd:(x==("__debug__":Str))=false):PE X (.Call (.Name x p) [] [] pos) (LE X.K Ξ (aP P (.call f .nil))) :=
 (We F.1 hr hg hm hk F.2.1 .nil hx hd).imp λbC H Q aV=>by
  obtain⟨Z,g,ρ,s,R,h⟩:=aV;exact sL hP F (.refl _ _) R .nil h λd g' h=>h
theorem Fd{c:Str}(F:lT X P Ξ.1 k f fa fd ps)(hC:m7 X.K c C)(hc:ie X.K C){ρ:List Addr}{g1:G}{Q:VK}(e0:Ext fg H0 ρ H)(R:Rl X.K ρ g1 H)(r:b6 X.K ρ H xs vs)(h:P f (.ref g1.length::xs) (g1++[.ins c []]) (λd g2=>d=.aX/\LQ X.K fg H0 Q (.ref g1.length) g2) (LX X.K fg H0 Ξ)):∀x dx,H x=none->H dx=none->dx≠x->mU Ξ.1 X.K ps.length (P f) (.ref x::(vs++[])) (upd (upd H dx (.own x)) x (.ins C dx [])) (λv H2=>v=.aX/\Q (.ref x) H2) Ξ.2:=by
 intro x dx hx Bb eA;have AO:upd H dx (.own x) x=none:=by rw[f7 (ba eA)];exact hx
 have R2:=R.grow (o:=.own x) Bb;have e2:Ext ρ H ρ (upd H dx (.own x)):=q9 Bb;have R3:=R2.new (o:=.ins c []) (u:=.ins C dx []) AO ⟨hC,hc,.nil,λx hx=>absurd hx (by simp)⟩;have e3:Ext ρ (upd H dx (.own x)) (ρ++[x]) (upd (upd H dx (.own x)) x (.ins C dx [])):=A7 AO;have:=sL hP F (e0.trans (e2.trans e3)) R3 (.cons (.ref (R.t6 x)) (r.ext (e2.trans e3))) h (Q:=λv H2=>v=.aX/\Q (.ref x) H2) λd g' q bw H' v e' R' r'=>by
  obtain⟨rfl,q⟩:=q;exact⟨r'.uF,q bw H' _ (e0.trans (e2.trans (e3.trans e'))) R' (.ref (e'.get (R.t6 x)))⟩
 exact this
theorem Mx(hx:Passes (gg X.prog X.w) X Ξ.2)(F:lT X P Ξ.1 k f fa fd ps)(M:Mk X.K C fa)(hC:m7 X.K x C)(hc:ie X.K C)(hr:n8 (k+1) X.A)(hg:Gl X x)(hm:X.mg x=some (.ref C))(ha:PA X (e::es) (LA X.K Ξ (eJ P fB)))(hd:(x==("__debug__":Str))=false)(et:starEach (e::es) X.env=(false,eval e X.env)::starEach es X.env)(fK:(backTo pos (starEach es X.env)).any (·.1)=false):PE X (.Call (.Name x p) (e::es) [] pos) (LE X.K Ξ (aP P (.make x f fB))) :=
 (Ma M F.1 hr hg hm F.2.1 .nil hx ha hd et fK).imp λbC H Q aV=>by
  obtain⟨Z,g,ρ,s,R,h⟩:=aV;exact iA hP s R (.refl _ _) h λxs g1 bB H1 vs e1 R1 r1 h=>Fd hP F hC hc e1 R1 r1 h
theorem WE(hx:Passes (gg X.prog X.w) X Ξ.2)(F:lT X P Ξ.1 k f fa fd ps)(M:Mk X.K C fa)(hC:m7 X.K x C)(hc:ie X.K C)(hr:n8 (k+1) X.A)(hg:Gl X x)(hm:X.mg x=some (.ref C))(hd:(x==("__debug__":Str))=false):PE X (.Call (.Name x p) [] [] pos) (LE X.K Ξ (aP P (.make x f .nil))) :=
 (Wk M F.1 hr hg hm F.2.1 .nil hx hd).imp λbC H Q aV=>by
  obtain⟨Z,g,ρ,s,R,h⟩:=aV;exact Fd hP F hC hc (.refl _ _) R .nil h
omit hP in
def yj(X:Cx)(P:eG)(ex:List Str)(m:Str)(cs:List (Str×Nat)):Prop:=∀c f C,cs.lookup c=some f->m7 X.K c C->∃k fa fd ps,Meth X.K C m fa/\lT X P ex k f fa fd ps/\n8 k X.A
theorem WH{m:Str}{cs:List (Str×Nat)}{o:Expr}{mo:ME}{apos:Pos}{pl:Sem Bool}(hx:Passes (gg X.prog X.w) X Ξ.2)(hM:yj X P Ξ.1 m cs)(ho:PE X o (LE X.K Ξ (aP P mo)))(ha:PA X (e::es) (LA X.K Ξ (eJ P fB)))(et:starEach (e::es) X.env=(false,eval e X.env)::starEach es X.env)(fK:(backTo pos (starEach es X.env)).any (·.1)=false)(ht:eval (.Call (.Attribute o m apos) (e :: es) [] pos) X.env=(do
   let ov <- eval o X.env
   standAt apos.atName
   let (f,first) <- holding [ov] (getMethod ov m pl)
   callWith pos f first (backTo pos (starEach (e :: es) X.env)) (backToKw pos (keywordEach [] X.env)))):PE X (.Call (.Attribute o m apos) (e :: es) [] pos) (LE X.K Ξ (aP P (.bp m cs mo fB))) :=
 (Wl ho hx ha et fK ht).imp λbC H Q aV=>by
  obtain⟨Z,g,ρ,s,R,h⟩:=aV;refine dY hP s R (.refl _ _) h λx g1 bB H1 v1 e1 R1 r1 h=>?_;obtain⟨i,c,fs,f,rfl,hi,hf,lI,h⟩:=h;obtain⟨a',rfl,ra⟩:=r1.i9;obtain⟨C,dx,vs,hH,hC,iB,rk,na⟩:=R1.ins hi ra;obtain⟨k,fa,fd,ps,M,F,hr⟩:=hM c f C lI hC;have lk:=rk.look m;rw[hf] at lk;have hl:vs.lookup m=none:=by cases e:vs.lookup m with|none=>rfl|some w=>rw[e] at lk;exact lk.elim
  refine⟨a',C,dx,vs,fa,fd,ps,k,_,rfl,hH,hl,iB,M,F.1,hr,F.2.1,?_⟩;exact iA hP (s.ext e1) R1 e1 h λxs g2 dI H2 ws e2 R2 r2 h=>sL hP F (e1.trans e2) R2 (.cons (.ref (e2.get ra)) r2) h λd g' h=>h.ext (e1.trans e2)
theorem Tg{m:Str}{cs:List (Str×Nat)}{o:Expr}{mo:ME}{apos:Pos}{pl:Sem Bool}(hx:Passes (gg X.prog X.w) X Ξ.2)(hM:yj X P Ξ.1 m cs)(ho:PE X o (LE X.K Ξ (aP P mo)))(ht:eval (.Call (.Attribute o m apos) [] [] pos) X.env=(do
   let ov <- eval o X.env
   standAt apos.atName
   let (f,first) <- holding [ov] (getMethod ov m pl)
   callWith pos f first (backTo pos (starEach [] X.env)) (backToKw pos (keywordEach [] X.env)))):PE X (.Call (.Attribute o m apos) [] [] pos) (LE X.K Ξ (aP P (.bp m cs mo .nil))) :=
 (SQ ho hx ht).imp λbC H Q aV=>by
  obtain⟨Z,g,ρ,s,R,h⟩:=aV;refine dY hP s R (.refl _ _) h λx g1 bB H1 v1 e1 R1 r1 h=>?_;obtain⟨i,c,fs,f,rfl,hi,hf,lI,h⟩:=h;obtain⟨a',rfl,ra⟩:=r1.i9;obtain⟨C,dx,vs,hH,hC,iB,rk,na⟩:=R1.ins hi ra;obtain⟨k,fa,fd,ps,M,F,hr⟩:=hM c f C lI hC;have lk:=rk.look m;rw[hf] at lk;have hl:vs.lookup m=none:=by cases e:vs.lookup m with|none=>rfl|some w=>rw[e] at lk;exact lk.elim
  exact⟨a',C,dx,vs,fa,fd,ps,k,_,rfl,hH,hl,iB,M,F.1,hr,F.2.1,sL hP F e1 R1 (.cons (.ref ra) .nil) h λd g' h=>h.ext e1⟩
end
inductive jq(K:PySem.W.Frag)(ρ:List Addr)(H:Hp):List D->List (V×V)->Prop
 |nil:jq K ρ H [] []
 |cons {k d:D} {x y:V} {ds:List D} {ps:List (V×V)} (h1:d6 K ρ H k x) (h2:d6 K ρ H d y) (r:jq K ρ H ds ps):jq K ρ H (k::d::ds) ((x,y)::ps)
theorem Rh{K ρ H}{ps:List (V×V)}(r:jq K ρ H xs ps):∀{acc kvs:List (Key×D)} {accV:List (Key×V)},pI xs acc=some kvs->i7 K ρ H acc accV->∃more:List (Key×V),ps=more.map (λkv=>(kV kv.1,kv.2))/\2*more.length=xs.length/\i7 K ρ H kvs (Q1 accV more):=by
 induction r with
 |nil =>
  intro acc kvs accV h ra;cases h;exact⟨[],rfl,rfl,ra⟩
 |cons h1 h2 r ih =>
  rename_i k d x y ds ps;intro acc kvs accV h ra;simp only[pI] at h;cases hk:Y5 k with
  |none=>rw[hk] at h;cases h
  |some c =>
   rw[hk] at h;obtain⟨more,e1,e2,r2⟩:=ih (show pI ds (putD acc c d)=some kvs from h) (ra.put h2);have ex:=uT hk h1;subst ex;refine⟨(c,y)::more,by rw[aW,<- e1],by simp only[List.length_cons];omega,r2⟩
section
variable{X:Cx}{Ξ:gn}{P:eG}(hP:i0 P){pos:Pos}
inductive kE(X:Cx)(Ξ:gn)(P:eG):List (Option Expr)->List Expr->ME->List (TE×TE)->Prop
 |nil:kE X Ξ P [] [] .nil []
 |cons {k v:Expr} {ks:List (Option Expr)} {vs:List Expr} {mk mv ms:ME} {gA:List (TE×TE)} (hk:PE X k (LE X.K Ξ (aP P mk))) (hv:PE X v (LE X.K Ξ (aP P mv))) (r:kE X Ξ P ks vs ms gA) :
   kE X Ξ P (some k::ks) (v::vs) (.cons mk (.cons mv ms)) ((LE X.K Ξ (aP P mk),LE X.K Ξ (aP P mv))::gA)
theorem kE.GC{ks vs ms gA}(h:kE X Ξ P ks vs ms gA):tf X pos ks vs gA:=by
 induction h with
 |nil=>exact Mf
 |cons hk hv r ih=>exact Ws hk hv ih
theorem kE.len{ks vs ms gA}(h:kE X Ξ P ks vs ms gA):ks.all (·.isSome)=true/\ks.length=vs.length:=by
 induction h with
 |nil=>exact⟨rfl,rfl⟩
 |cons hk hv r ih=>exact⟨by simpa using ih.1,by simp[ih.2]⟩
include hP
theorem kE.pairs{ks vs ms gA}(hd:kE X Ξ P ks vs ms gA):∀{bC:L2.St} {Z:S} {g:G} {ρ fg:List Addr} {H H0:Hp} {Qd:List D->G->Prop} {Q:List (V×V)->Hp->Prop},k7 X.K ρ H Z bC->Rl X.K ρ g H->Ext fg H0 ρ H->eJ P ms Z g Qd (LX X.K fg H0 Ξ) ->
  (∀ds g' bw H' ps,Ext ρ H bw H'->Rl X.K bw g' H'->jq X.K bw H' ds ps->Qd ds g'->Q ps H')->uI gA bC H Q:=by
 induction hd with
 |nil =>
  intro bC Z g ρ fg H H0 Qd Q s R e0 h k;exact k [] g ρ H [] (.refl _ _) R .nil h
 |cons hk hv r ih =>
  intro bC Z g ρ fg H H0 Qd Q s R e0 h k;refine dY hP s R e0 h λx g1 bB H1 v1 e1 R1 r1 h=>dY hP (s.ext e1) R1 (e0.trans e1) h λy g2 dI H2 v2 e2 R2 r2 h=>?_;refine ih (s.ext (e1.trans e2)) R2 (e0.trans (e1.trans e2)) h λds g' bw H' ps e' R' rp hq=>?_;exact k _ g' bw H' _ (e1.trans (e2.trans e')) R' (.cons (r1.ext (e2.trans e')) (r2.ext e') rp) hq
theorem JU{ks:List (Option Expr)}{vs:List Expr}{ms:ME}{gA:List (TE×TE)}(hd:kE X Ξ P ks vs ms gA)(h0:ks≠[])(xw:ks.length<=15):PE X (.Dict ks vs pos) (LE X.K Ξ (aP P (.lR ms))) :=
 (LZ hd.GC hd.len.1 hd.len.2 h0 xw).imp λbC H Q ⟨Z,g,ρ,s,R,h⟩ p hp=>by
  have e1:Ext ρ H (ρ++[p]) (upd H p (.dK [])):=A7 hp;refine kE.pairs hP hd (s.ext e1) (R.new hp (o:=.bX []) (u:=.dK []) i7.nil) e1 h λds g2 dI H2 ps e2 R2 rp hq=>?_;obtain⟨kvs,hk,hz,hg,q⟩:=hq;have qQ:dI[g.length]?=some p:=e2.get (R.t6 p);obtain⟨Xp,hv,rv⟩:=R2.bX hg qQ;cases rv;obtain⟨more,em,hl,rk⟩:=Rh rp hk (accV:=[]) .nil;refine⟨hv,more,em,by omega,?_⟩;obtain⟨R3,e3⟩:=R2.put (o':=.bX kvs) (u:=.dK (Q1 [] more)) hg rfl qQ rk;exact q dI _ _ (e1.trans (e2.trans e3)) R3 (.ref qQ)
end
theorem PK{l:List D}(ht:TupAt K H0 a vs)(rs:b6 K fg H0 l vs):U3 K fg H0 (.fix l) (zY K a):=by
 intro ρ g H e R i;have qN:=ht.ext e;have Au:=rs.ext e;refine⟨λh=>⟨vs,qN.sq,?_⟩,λd h=>?_⟩
 ·simp only[IK.at] at h;have:=cK.mp (aG h);rw[<- Au.length];exact this
 ·simp only[IK.at] at h;obtain⟨v,hv,rv⟩:=Au.get (aG h);refine⟨⟨vs,v,qN.sq,hv⟩,λw H' y=>?_⟩;obtain⟨rfl,y⟩:=y;have:=y vs qN.sq;rw[hv] at this;cases this;exact⟨.refl _ _,R,rv⟩
theorem PH(ha:fg[j]?=some a):U3 K fg H0 (.lst j) (zZ K a):=by
 intro ρ g H e R i;have ki:=e.get ha;refine⟨λh=>?_,λd h=>?_⟩
 ·simp only[IK.at] at h;cases el:c8 g j with
  |none=>rw[el] at h;cases h
  |some l =>
   rw[el] at h;obtain⟨vs,hq,rs⟩:=R.items el ki;refine⟨vs,hq,?_⟩;have:=cK.mp (aG h);rw[<- rs.length];exact this
 ·simp only[IK.at] at h;cases el:c8 g j with
  |none=>rw[el] at h;cases h
  |some l =>
   rw[el] at h;obtain⟨vs,hq,rs⟩:=R.items el ki;obtain⟨v,hv,rv⟩:=rs.get (aG h);refine⟨⟨vs,v,hq,hv⟩,λw H' y=>?_⟩;obtain⟨rfl,y⟩:=y;have:=y vs hq;rw[hv] at this;cases this;exact⟨.refl _ _,R,rv⟩
theorem Cc{lo:Int}{n:Nat}:U3 K fg H0 (.fix (w6 lo n)) (tq lo n):=by
 unfold w6;intro ρ g H e R i;refine⟨λh=>?_,λd h=>?_⟩
 ·simp only[IK.at] at h;have:=cK.mp (aG h);show n<=i;simpa using this
 ·simp only[IK.at] at h;have h:=aG h;have hi:i<n:=by
   have:=(az.mp h).1;simpa using this
  rw[aA,Ai hi] at h;cases h;refine⟨hi,λw H' y=>?_⟩;obtain⟨rfl,rfl⟩:=y;exact⟨.refl _ _,R,.int _⟩
theorem PJ{n:Nat}(ha:fg[j]?=some a):U3 K fg H0 (.tP j n) (zX K a n):=by
 intro ρ g H e R i;have ki:=e.get ha;refine⟨λh=>?_,λd h=>?_⟩
 ·simp only[IK.at] at h;cases el:c8 g j with
  |none=>rw[el] at h;cases h
  |some l =>
   rw[el] at h;dsimp only at h;by_cases hl:l.length=n
   ·rw[aJ hl] at h;have h:=aG h;by_cases hi:i<n
    ·rw[aJ hi] at h;have:=cK.mp h;omega
    ·exact jW hi
   ·rw[aB hl] at h;cases h
 ·simp only[IK.at] at h;cases el:c8 g j with
  |none=>rw[el] at h;cases h
  |some l =>
   rw[el] at h;dsimp only at h;by_cases hl:l.length=n
   ·rw[aJ hl] at h;have h:=aG h;by_cases hi:i<n
    ·rw[aJ hi] at h;obtain⟨vs,hq,rs⟩:=R.items el ki;obtain⟨v,hv,rv⟩:=rs.get h;refine⟨⟨vs,v,hq,by rw[<- rs.length];exact hl,hi,hv⟩,λw H' y=>?_⟩;obtain⟨rfl,y⟩:=y;have:=y vs hq;rw[hv] at this;cases this;exact⟨.refl _ _,R,rv⟩
    ·rw[aB hi] at h;cases h
   ·rw[aB hl] at h;cases h
theorem PD(ha:fg[j]?=some a):U3 K fg H0 (.oz j) (Aa K a):=by
 intro ρ g H e R i;have ki:=e.get ha;refine⟨λh=>?_,λd h=>?_⟩
 ·simp only[IK.at] at h;cases el:c8 g j with
  |none=>rw[el] at h;cases h
  |some l =>
   rw[el] at h;obtain⟨vs,hq,rs⟩:=R.items el ki;refine⟨vs,hq,?_⟩;have h:=aG h;rw[Option.map_eq_none_iff] at h;have:=cK.mp h;rw[<- rs.length];exact this
 ·simp only[IK.at] at h;cases el:c8 g j with
  |none=>rw[el] at h;cases h
  |some l =>
   rw[el] at h;obtain⟨vs,hq,rs⟩:=R.items el ki;have h:=aG h;rw[ae] at h;obtain⟨d',hd,rfl⟩:=h;obtain⟨v,hv,rv⟩:=rs.get hd;refine⟨⟨vs,v,hq,hv⟩,λw H' y=>?_⟩;obtain⟨p,x,hp,rfl,y,rfl⟩:=y;have:=y vs hq;rw[hv] at this;cases this;exact⟨q9 hp,R.grow hp,.tup (.inl m6) (.cons (.int _) (.cons (rv.ext (q9 hp)) .nil))⟩
end M
namespace L2
open PySem PySem.Spec PyProof.Rows
theorem JC{X:Cx}{tg l:Expr}{tl:TE}(hl:PE X l tl):PI X tg l (λZ H R=>tl Z H λx H1=>(∃a,x=.ref a/\(∃xs,eW X.K H1 a xs)/\R (zZ X.K a) H1)\/(∃a,x=.ref a/\(∃xs,gD X.K H1 a xs)/\R (zY X.K a) H1)):=by
 intro pins s Z H R I h;refine cb (hl pins s Z H _ I h) λv s1 aV=>?_;obtain⟨x,H1,I1,r1,q1⟩:=aV;rcases q1 with⟨a,e,⟨xs,hq⟩,q⟩|⟨a,e,⟨xs,hq⟩,q⟩
 ·subst e;cases r1;obtain⟨aN,rv,p,hz⟩:=I1.list hq;refine gL p.isList ?_;refine⟨s1.heap.objs.size,[s1.heap.objs.size],_,_,H1,rfl,I1.kept (t':=s1.toks) λb o e=>ai _ e,Tr a _,⟨_,au _ rfl,rfl,rfl⟩,λb hb=>?_,q⟩;have e:b=s1.heap.objs.size:=by simpa using hb
  subst e;exact I1.nz (aj _) (I1.bz.fresh (aj _))
 ·subst e;cases r1;obtain⟨aN,rv,p,hz⟩:=I1.tuple hq;refine wpAny_pyIter_tuple (show s1.heap.IsTuple a aN.toArray from p) ?_;refine⟨s1.heap.objs.size,[s1.heap.objs.size],_,_,H1,rfl,I1.kept (t':=s1.toks) λb o e=>ai _ e,Ut a _,⟨_,au _ rfl,rfl,rfl⟩,λb hb=>?_,q⟩;have e:b=s1.heap.objs.size:=by simpa using hb
  subst e;exact I1.nz (aj _) (I1.bz.fresh (aj _))
end L2
namespace M
open PySem L2 PySem.Spec PyProof.Rows
variable{X:Cx}{Ξ:gn}{P:eG}{a b o e:Expr}{c:f6}{mb:MS}{pos tp px:Pos}{p:Pr}{i k n:Nat}{x f qual:Str}{es args:List Expr}{t:MT}{mo mi m:ME}{cs N:List Str}{H:Hp}{body:List Stmt}{scope:Scope}{env:Env}{r:CF}{cd:Value}{A:Around}{outer:List Env}{s:Shared}{E:XK}
section
variable(hP:i0 P){tg:Expr}{ma mb:ME}{p:Pos}
include hP
theorem Kd(ha:PE X a (LE X.K Ξ (aP P ma))):PI X tg a (LI X.K Ξ (fZ P (.ei ma))) :=
 (JC ha).imp λbC H R aV=>by
  obtain⟨Z,g,ρ,s,Rr,h⟩:=aV;refine dY hP s Rr (.refl _ _) h λx g1 bB H1 v1 e1 R1 r1 h=>?_;rcases h with⟨l,rfl,h⟩|⟨i,l,rfl,hl,h⟩
  ·obtain⟨a',vs,rfl,ht,rs⟩:=r1.A9;exact .inr ⟨_,rfl,⟨_,ht.sq⟩,h bB H1 _ e1 R1 (PK ht rs)⟩
  ·obtain⟨a',rfl,ki⟩:=r1.i9;obtain⟨vs,hq,rs⟩:=R1.items hl ki;exact .inl ⟨_,rfl,⟨_,hq⟩,h bB H1 _ e1 R1 (PH ki)⟩
theorem MD{elts:List Expr}{x1:Nat}(ha:PE X a (LE X.K Ξ (aP P ma)))(hg:Gl X "enumerate")(hm:X.mg "enumerate"=none)(hs:starEach [a] X.env=[(false,eval a X.env)]):PI X (.Tuple elts x1 tp) (.Call (.Name "enumerate" p) [a] [] pos) (LI X.K Ξ (fZ P (.jC ma))) :=
 (Md hg hm (w9 hP ha (F9 hP) (by rw[hs];rfl)) hs).imp λbC H R aV=>by
  obtain⟨Z,g,ρ,s,Rr,h⟩:=aV;refine iA hP (m:=.cons ma .nil) s Rr (.refl _ _) (Q0:=λxs g1=>∃a l,xs=[.ref a]/\c8 g1 a=some l/\∀bw H' J,Ext ρ H bw H'->Rl X.K bw g1 H'->U3 X.K bw H' (.oz a) J->R J H') ?_ λxs g1 bB H1 vs e1 R1 r1 h=>?_
  ·skip
   exact b7 hP ma _ _ _ _ _ _ (λx g1 ⟨i,l,e,hl,h⟩=>⟨i,l,by rw[e],hl,h⟩) (λ_ _ z=>z) h
  ·obtain⟨j,l,rfl,hl,h⟩:=h;obtain⟨v,rfl,rv⟩:=r1.one;obtain⟨a',rfl,ra⟩:=rv.i9;obtain⟨vs,hq,rs⟩:=R1.items hl ra;exact⟨_,rfl,⟨_,hq⟩,h bB H1 _ e1 R1 (PD ra)⟩
theorem Kc(ha:PE X a (LE X.K Ξ (aP P ma)))(hg:Gl X "reversed")(hm:X.mg "reversed"=none)(hs:starEach [a] X.env=[(false,eval a X.env)]):PI X tg (.Call (.Name "reversed" p) [a] [] pos) (LI X.K Ξ (fZ P (.mq ma))) :=
 (JB hg hm (w9 hP ha (F9 hP) (by rw[hs];rfl)) hs).imp λbC H R aV=>by
  obtain⟨Z,g,ρ,s,Rr,h⟩:=aV;refine iA hP (m:=.cons ma .nil) s Rr (.refl _ _) (Q0:=λxs g1=>∃a l,xs=[.ref a]/\c8 g1 a=some l/\∀bw H' J,Ext ρ H bw H'->Rl X.K bw g1 H'->U3 X.K bw H' (.tP a l.length) J->R J H') ?_ λxs g1 bB H1 vs e1 R1 r1 h=>?_
  ·skip
   exact b7 hP ma _ _ _ _ _ _ (λx g1 ⟨i,l,e,hl,h⟩=>⟨i,l,by rw[e],hl,h⟩) (λ_ _ z=>z) h
  ·obtain⟨j,l,rfl,hl,h⟩:=h;obtain⟨v,rfl,rv⟩:=r1.one;obtain⟨a',rfl,ra⟩:=rv.i9;obtain⟨vs,hq,rs⟩:=R1.items hl ra;exact⟨_,vs,rfl,hq,h bB H1 _ e1 R1 (by rw[rs.length];exact PJ ra)⟩
theorem MF(ha:PE X a (LE X.K Ξ (aP P ma)))(hg:Gl X "range")(hm:X.mg "range"=none)(hs:starEach [a] X.env=[(false,eval a X.env)]):PI X tg (.Call (.Name "range" p) [a] [] pos) (LI X.K Ξ (fZ P (.fc ma))) :=
 (SW hg hm (w9 hP ha (F9 hP) (by rw[hs];rfl)) hs).imp λbC H R aV=>by
  obtain⟨Z,g,ρ,s,Rr,h⟩:=aV;refine iA hP (m:=.cons ma .nil) s Rr (.refl _ _) (Q0:=λxs g1=>∃j:Int,xs=[.int j]/\-(2 ^ 62)<=j/\j<2 ^ 62/\∀bw H' J,Ext ρ H bw H'->Rl X.K bw g1 H'->U3 X.K bw H' (.fix (w6 0 j.toNat)) J->R J H') ?_ λxs g1 bB H1 vs e1 R1 r1 h=>?_
  ·skip
   exact b7 hP ma _ _ _ _ _ _ (λx g1 ⟨j,e,h1,h2,h⟩=>⟨j,by rw[e],h1,h2,h⟩) (λ_ _ z=>z) h
  ·obtain⟨j,rfl,h1,h2,h⟩:=h;obtain⟨v,rfl,rv⟩:=r1.one;obtain rfl:=rv.j0;exact⟨_,rfl,h1,h2,h bB H1 _ e1 R1 Cc⟩
theorem MG(ha:PE X a (LE X.K Ξ (aP P ma)))(hb:PE X b (LE X.K Ξ (aP P mb)))(hg:Gl X "range")(hm:X.mg "range"=none)(hs:starEach [a,b] X.env=[(false,eval a X.env),(false,eval b X.env)])(hX:starEach [b] X.env=[(false,eval b X.env)]) :
  PI X tg (.Call (.Name "range" p) [a,b] [] pos) (LI X.K Ξ (fZ P (.iq ma mb))) :=
 (SX hg hm (w9 hP ha (w9 hP hb (F9 hP) (by rw[hX];rfl)) (by rw[hs,hX])) hs hX).imp λbC H R aV=>by
  obtain⟨Z,g,ρ,s,Rr,h⟩:=aV;refine iA hP (m:=.cons ma (.cons mb .nil)) s Rr (.refl _ _) (Q0:=λxs g1=>∃i j:Int,xs=[.int i,.int j]/\(-(2 ^ 62)<=i/\i<2 ^ 62/\-(2 ^ 62)<=j/\j<2 ^ 62)/\∀bw H' J,Ext ρ H bw H'->Rl X.K bw g1 H'->U3 X.K bw H' (.fix (w6 i (j-i).toNat)) J->R J H') ?_ λxs g1 bB H1 vs e1 R1 r1 h=>?_
  ·skip
   exact b7 hP ma _ _ _ _ _ _ (λx g1 h=>b7 hP mb _ _ _ _ _ _ (λy g2 ⟨i,j,e,e',h1,h⟩=>⟨i,j,by rw[e,e'],h1,h⟩) (λ_ _ z=>z) h) (λ_ _ z=>z) h
  ·obtain⟨i,j,rfl,h1,h⟩:=h;obtain⟨v,w,rfl,rv,eO⟩:=r1.two;obtain rfl:=rv.j0;obtain rfl:=eO.j0;exact⟨_,_,rfl,h1,h bB H1 _ e1 R1 Cc⟩
end
theorem Kb(hN:X.N.Nodup)(hi:X.N[i]?=some x)(hx:Loc X.env.scope x)(hf:X.fn x=true\/X.env.scope.names.lookup x=some .local):PG X (.Name x pos) (LG X.K (.one i)) :=
 (Fm hN hi hx hf).imp λv bC H Q hq=>by
  obtain⟨d,Z,g,ρ,s,R,r,h⟩:=hq;exact h _ (s.set i r)
inductive eV(X:Cx):List Expr->List Nat->Prop
 |nil:eV X [] []
 |cons {x:Str} {p:Pos} {i:Nat} {es:List Expr} {is:List Nat} (hi:X.N[i]?=some x) (hx:Loc X.env.scope x) (hf:X.fn x=true\/X.env.scope.names.lookup x=some .local) (r:eV X es is):eV X (.Name x p::es) (i::is)
def zG:List Nat->nC
 |[]=>CC
 |i::is=>BY (pT i) (zG is)
theorem SV(hN:X.N.Nodup){is:List Nat}(h:eV X es is):tj X es (zG is):=by
 induction h with
 |nil=>exact Mc
 |cons hi hx hf r ih=>exact Wn (Fm hN hi hx hf) ih rfl
theorem zd:∀{es:List Expr} {is:List Nat},eV X es is->(assignEach es X.env).length=is.length/\(assignEach es X.env).findIdx? (·.1)=none
 |_,_,.nil=>⟨rfl,rfl⟩
 |_,_,.cons (x:=x) (p:=p) (es:=es) hi hx hf r=>by
  obtain⟨h1,h2⟩:=zd r;have e:assignEach (.Name x p::es) X.env=(false,assign (.Name x p) X.env)::assignEach es X.env:=rfl;rw[e];refine⟨by simp[h1],?_⟩;rw[List.findIdx?_cons,h2]
  rfl
theorem Dg{K:PySem.W.Frag}{ρ:List Addr}{H:Hp}{k:S->Prop}{Q:L2.St->Hp->Prop}:∀{is:List Nat} {l:List D} {vs:List V} {Z bD:S} {bC:L2.St},C0 is l Z=some bD->b6 K ρ H l vs->k7 K ρ H Z bC->(∀cP,k7 K ρ H bD cP->Q cP H)->zG is vs bC H Q
 |[],_,_,_,_,_,h,.nil,s,q=>by
  simp only[C0] at h;cases h;exact⟨rfl,q _ s⟩
 |[],_,_,_,_,_,h,.cons _ _,s,q=>by simp only[C0] at h;cases h
 |i::is,_,_,_,_,_,h,.nil,s,q=>by simp only[C0] at h;cases h
 |i::is,_,_,_,_,_,h,.cons r rr,s,q=>by
  simp only[C0] at h;exact⟨_,_,rfl,Dg (k:=k) h rr (s.set i r) q⟩
theorem X3:∀{is:List Nat} {l:List D} {Z bD:S},C0 is l Z=some bD->l.length=is.length
 |[],[],_,_,_=>rfl
 |[],_::_,_,_,h=>by simp only[C0] at h;cases h
 |_::_,[],_,_,h=>by simp only[C0] at h;cases h
 |_::is,_::l,_,_,h=>by simp only[C0] at h;simp[X3 h]
theorem Fx{is:List Nat}(hc:X.calm=true)(hN:X.N.Nodup)(hs:eV X es is):PG X (.Tuple es k pos) (LG X.K (.many is)) :=
 (JA hc (SV hN hs) (zd hs).1 (zd hs).2).imp λv bC H Q aV=>by
  obtain⟨d,Z,g,ρ,s,R,r,h⟩:=aV;obtain⟨l,bD,rfl,e,h⟩:=h;obtain⟨a',vs,rfl,ht,rs⟩:=r.A9;exact⟨_,_,rfl,ht.sq,by rw[<- rs.length];exact X3 e,Dg (k:=λ_=>True) e rs s h⟩
theorem LN.ext{K ρ H N bB H1}(e:Ext ρ H bB H1):(LN K ρ H N).le (LN K bB H1 N) :=
 ⟨λZ g h bw H' cP e' R s=>h bw H' cP (e.trans e') R s,λd g h=>h.ext e,λZ g h bw H' cP e' R s=>h bw H' cP (e.trans e') R s,λZ g h bw H' cP e' R s=>h bw H' cP (e.trans e') R s⟩
section
variable(hP:i0 P){c tg:Expr}{ma mb mc:ME}{st:Stmt}{rest:List Stmt}{vO kR:MS}{p:Pos}
include hP
theorem EH:ic X [] (LS X.K Ξ (wpS P .pass)) :=
 (Mj (X:=X)).imp λN bC H ⟨Z,g,ρ,s,R,h⟩=>h ρ H bC (.refl _ _) R s
theorem Fy(h1:PS X st (LS X.K Ξ (wpS P vO)))(h2:ic X rest (LS X.K Ξ (wpS P kR))):ic X (st::rest) (LS X.K Ξ (wpS P (.seq vO kR))) :=
 (Wv h1 h2).imp λN bC H ⟨Z,g,ρ,s,R,h⟩ =>
  oY hP s R (.refl _ _) (show wpS P vO { LN X.K ρ H N with nx:=λgP g1=>wpS P kR (LN X.K ρ H N) gP g1 (LX X.K ρ H Ξ) } Z g (LX X.K ρ H Ξ) from h) ⟨λgP g1 h bB H1 Gd e1 R1 s1=>oY hP s1 R1 e1 h (LN.ext e1),λ_ _ z=>z,λ_ _ z=>z,λ_ _ z=>z⟩
theorem MO(ha:PE X a (LE X.K Ξ (aP P ma)))(hs:swapsWith a none pos.line X.env=pure false):PS X (.Expr a pos) (LS X.K Ξ (wpS P (.expr ma))) :=
 (Mg ha hs).imp λN bC H ⟨Z,g,ρ,s,R,h⟩=>dY hP s R (.refl _ _) h λx g1 bB H1 v1 e1 R1 r1 h=>h bB H1 bC e1 R1 (s.ext e1)
theorem EJ(h0:PS X (.Assign [.Name x p] a pos) (sk (LE X.K Ξ (aP P ma)) (pT i))):PS X (.Assign [.Name x p] a pos) (LS X.K Ξ (wpS P (.set i ma))) :=
 h0.imp λN bC H ⟨Z,g,ρ,s,R,h⟩=>dY hP s R (.refl _ _) h λx g1 bB H1 v1 e1 R1 r1 h=>h bB H1 _ e1 R1 ((s.ext e1).set i r1)
theorem Kr(h0:PS X (.Assign [tg] a pos) (sk (LE X.K Ξ (aP P ma)) (LG X.K t))):PS X (.Assign [tg] a pos) (LS X.K Ξ (wpS P (.kJ t ma))) :=
 h0.imp λN bC H ⟨Z,g,ρ,s,R,h⟩=>dY hP s R (.refl _ _) h λx g1 bB H1 v1 e1 R1 r1 h=>⟨x,Z,g1,bB,s.ext e1,R1,r1,v7 (λbD h cP s'=>h bB H1 cP e1 R1 s') h⟩
theorem WS(hu:X.A.units+100<cLine){i:Expr}(ha:PE X a (LE X.K Ξ (aP P ma)))(ho:PE X o (LE X.K Ξ (aP P mo)))(hi:PE X i (LE X.K Ξ (aP P mi)))(hs:swapsWithSole [.Subscript o i tp] a pos.line X.env=pure false)(ki:∀ v,assign (.Subscript o i tp) X.env v=(do
   let ov <- holding [v] (eval o X.env)
   let iv <- holding [v,ov] (eval i X.env)
   standAt tp
   holding [v,ov,iv] (setItem ov iv v)
   release [v,ov,iv] [])):PS X (.Assign [.Subscript o i tp] a pos) (LS X.K Ξ (wpS P (.cF mo mi ma))) :=
 (EA ha (Jz ho hi (Ka hu) ki) hs).imp λN bC H ⟨Z,g,ρ,s,R,h⟩ =>
  dY hP s R (.refl _ _) h λx g1 bB H1 v1 e1 R1 r1 h=>dY hP (s.ext e1) R1 e1 h λy g2 dI H2 v2 e2 R2 r2 h=>dY hP (s.ext (e1.trans e2)) R2 (e1.trans e2) h λz g3 gX H3 v3 e3 R3 r3 h =>
   ⟨y,z,x,g3,gX,R3,r2.ext e3,r3,r1.ext (e2.trans e3),S4 (λg4 h jY H4 e4 R4=>h jY H4 bC (e1.trans (e2.trans (e3.trans e4))) R4 (s.ext (e1.trans (e2.trans (e3.trans e4))))) h⟩
omit hP in
def uB(K:PySem.W.Frag)(f:Str)(cs:List Str):Prop:=∀c C,c∈cs->m7 K c C->u6 K C f
omit hP in
theorem MC(hF:uB X.K f cs){ρ:List Addr}{g g':G}{x v:D}{xv vv:V}(R:Rl X.K ρ g H)(rx:d6 X.K ρ H x xv)(rv:d6 X.K ρ H v vv)(h:Cn f cs x v g g') :
  ∃a C dx fs,xv=.ref a/\H a=some (.ins C dx fs)/\ie X.K C/\u6 X.K C f/\fs.length<1000/\Rl X.K ρ g' (upd H a (.ins C dx (p8 f vv fs)))/\Ext ρ H ρ (upd H a (.ins C dx (p8 f vv fs))):=by
 obtain⟨i,c,fs,rfl,hi,hc,hz,rfl⟩:=h;obtain⟨a',rfl,ra⟩:=rx.i9;obtain⟨C,dx,vs,hH,hC,iB,rk,na⟩:=R.ins hi ra;obtain⟨R',e'⟩:=R.put (o':=.ins c (x8 f v fs)) (u:=.ins C dx (p8 f vv vs)) hi rfl ra ⟨hC,iB,rk.p8 rv,X4 (p:=λy=>u6 X.K C y) (hF c C hc hC) na⟩;exact⟨a',C,dx,vs,rfl,hH,iB,hF c C hc hC,by rw[<- rk.length];omega,R',e'⟩
theorem MP(hF:uB X.K f cs)(ho:PE X o (LE X.K Ξ (aP P mo)))(ha:PE X a (LE X.K Ξ (aP P ma)))(hs:swapsWith a (some (.Attribute o f tp)) pos.line X.env=pure false):PS X (.Assign [.Attribute o f tp] a pos) (LS X.K Ξ (wpS P (.fk f cs mo ma))) :=
 (JE ho ha hs).imp λN bC H ⟨Z,g,ρ,s,R,h⟩=>dY hP s R (.refl _ _) h λx g1 bB H1 v1 e1 R1 r1 h=>dY hP (s.ext e1) R1 e1 h λy g2 dI H2 v2 e2 R2 r2 h=>by
  obtain⟨g3,h,q⟩:=h;obtain⟨a',C,dx,fs,hx,hH,iB,na,hz,R3,e3⟩:=MC hF R2 r2 (r1.ext e2) h;exact⟨a',C,dx,fs,hx,hH,iB,na,hz,q dI _ bC (e1.trans (e2.trans e3)) R3 (s.ext (e1.trans (e2.trans e3)))⟩
theorem MN{op:Operator}{p:Pr}(wg:(op=.Add/\p=.iadd)\/(op=.Sub/\p=.mr))(hN:X.N.Nodup)(hi:X.N[i]?=some x)(hx:Loc X.env.scope x)(hf:X.fn x=true\/X.env.scope.names.lookup x=some .local)(ha:PE X a (LE X.K Ξ (aP P ma))):PS X (.AugAssign (.Name x tp) op a pos) (LS X.K Ξ (wpS P (.iR i p ma))):=by
 have ho:FR X op (r2 X.K p):=by
  intro pins s Z H x y v u Q I rx ry h;obtain⟨d,e,g,ρ,R,rd,re,d',g',hr,q⟩:=h;rcases wg with⟨rfl,rfl⟩|⟨rfl,rfl⟩
  ·rcases hr with⟨i,j,ex,rfl,rfl⟩|⟨l,m,ex,hz,rfl,rfl⟩
   ·obtain⟨rfl,rfl⟩:=p7 ex;obtain rfl:=rd.j0;obtain rfl:=re.j0;exact Ll pins s Z H _ _ v u Q I rx ry ⟨i,j,rfl,rfl,q.now R (.int _)⟩
   ·obtain⟨rfl,rfl⟩:=p7 ex;obtain⟨p1,vE,rfl,t1,mn⟩:=rd.A9;obtain⟨p2,mP,rfl,t2,kO⟩:=re.A9;refine EY pins s Z H _ _ v u Q I rx ry (.inr ⟨p1,p2,vE,mP,rfl,rfl,t1.sq,t2.sq,by rw[<- mn.length,<- kO.length];exact j7 hz,λz=>?_,λz=>?_,λp hp=>q.tup R hp (mn.append kO)⟩)
    ·subst z;cases mn;exact q.now R (.tup t2 kO)
    ·subst z;cases kO;rw[eY] at q;exact q.now R (.tup t1 mn)
  ·obtain⟨i,j,ex,rfl,rfl⟩:=hr;obtain⟨rfl,rfl⟩:=p7 ex;obtain rfl:=rd.j0;obtain rfl:=re.j0;exact Ln pins s Z H _ _ v u Q I rx ry ⟨i,j,rfl,rfl,q.now R (.int _)⟩
 refine(JD hN hi hx ha ho hf).imp λN bC H aV=>?_;obtain⟨Z,g,ρ,s,R,h⟩:=aV;obtain⟨xd,GX,h⟩:=h;obtain⟨xv,hv,rx⟩:=s.val _ _ GX;refine⟨xv,hv,dY hP s R (.refl _ _) h λz g1 bB H1 v1 e1 R1 r1 h=>?_⟩;refine⟨xd,z,g1,bB,R1,rx.ext e1,r1,n6 (λw g2 q=>?_) h⟩;exact λdI H2 v2 e2 R2 r2=>q dI H2 _ (e1.trans e2) R2 ((s.ext (e1.trans e2)).set i r2)
theorem MM(hF:uB X.K f cs)(ho:PE X o (LE X.K Ξ (aP P mo)))(ha:PE X a (LE X.K Ξ (aP P ma))):PS X (.AugAssign (.Attribute o f tp) .Add a pos) (LS X.K Ξ (wpS P (.jo f cs mo ma))) :=
 (Tc ho ha EY).imp λN bC H ⟨Z,g,ρ,s,R,h⟩=>dY hP s R (.refl _ _) h λy g1 bB H1 v1 e1 R1 r1 h=>by
  obtain⟨i,c,fs,x,rfl,hi,hc,hf,h⟩:=h;obtain⟨a',rfl,ra⟩:=r1.i9;obtain⟨C,dx,vs,hH,hC,iB,rk,na⟩:=R1.ins hi ra;have lk:=rk.look f;rw[hf] at lk;obtain⟨v,hv,rv⟩:=lk.some;refine⟨a',C,dx,vs,v,rfl,hH,iB,hF c C hc hC,hv,dY hP (s.ext e1) R1 e1 h λz g3 gX H3 v3 e3 R3 r3 h=>?_⟩;obtain⟨d',g',hR,ia,lj,hz,q⟩:=h;have fin:∀{jY:List Addr} {H4:Hp} {vv:V},Ext gX H3 jY H4->Rl X.K jY g' H4->d6 X.K jY H4 d' vv->∃pE ia,H4 a'=some (.ins C pE ia)/\ia.length<1000/\N.nx bC (upd H4 a' (.ins C pE (p8 f vv ia))):=by
   intro jY H4 vv e4 R4 r4;obtain⟨C2,Bp,mP,mH,wQ,wC,Av,GF⟩:=R4.ins lj ((e3.trans e4).get ra);have:C2=C:=by have h1:=wQ.symm.trans hC;cases h1;rfl
   subst this;obtain⟨R5,e5⟩:=R4.put (o':=.ins c (x8 f d' ia)) (u:=.ins C2 Bp (p8 f vv mP)) lj rfl ((e3.trans e4).get ra) ⟨wQ,wC,Av.p8 r4,X4 (p:=λy=>u6 X.K C2 y) (hF c C2 hc wQ) GF⟩;exact⟨Bp,mP,mH,by rw[<- Av.length];omega,q jY _ bC (e1.trans (e3.trans (e4.trans e5))) R5 (s.ext (e1.trans (e3.trans (e4.trans e5))))⟩
  rcases hR with⟨j,l,ex,rfl,rfl⟩|⟨l,m,ex,GS,rfl,rfl⟩
  ·obtain⟨rfl,rfl⟩:=p7 ex;obtain rfl:=rv.j0;obtain rfl:=r3.j0;exact .inl ⟨_,_,rfl,rfl,fin (.refl _ _) R3 (.int _)⟩
  ·obtain⟨rfl,rfl⟩:=p7 ex;obtain⟨p1,vE,rfl,t1,mn⟩:=(rv.ext e3).A9;obtain⟨p2,mP,rfl,t2,kO⟩:=r3.A9;refine .inr ⟨p1,p2,vE,mP,rfl,rfl,t1.sq,t2.sq,by rw[<- mn.length,<- kO.length];exact j7 GS,λz=>?_,λz=>?_,λp hp=>?_⟩
   ·subst z;cases mn;exact fin (.refl _ _) R3 (.tup t2 kO)
   ·subst z;cases kO;rw[eY] at fin;exact fin (.refl _ _) R3 (.tup t1 mn)
   ·exact fin (q9 hp) (R3.grow hp) (.tup (.inl m6) ((mn.append kO).ext (q9 hp)))
theorem QE{sa sb:List Stmt}{AH msb:MS}(hc:PT X c (LT X.K Ξ (da P mc)))(ha:ic X sa (LS X.K Ξ (wpS P AH)))(hb:ic X sb (LS X.K Ξ (wpS P msb))):PS X (.If c sa sb pos) (LS X.K Ξ (wpS P (.ifs mc AH msb))) :=
 (Qp hc ha hb).imp λN bC H ⟨Z,g,ρ,s,R,h⟩=>mQ hP s R (.refl _ _) h λt g1 bB H1 e1 R1 h=>by
  cases t
  ·exact oY hP (s.ext e1) R1 e1 h (LN.ext e1)
  ·exact oY hP (s.ext e1) R1 e1 h (LN.ext e1)
theorem EI(ha:PE X a (LE X.K Ξ (aP P ma))):PS X (.Return (some a) pos) (LS X.K Ξ (wpS P (.ret ma))) :=
 (JH ha).imp λN bC H ⟨Z,g,ρ,s,R,h⟩=>⟨Z,g,ρ,s,R,h⟩
theorem WT{mb:MS}(hp:PassesOwn (model X.prog X.w) X.A X.env X.xe)(hc:PT X c (LT X.K Ξ (da P mc)))(hb:ic X body (LS X.K Ξ (wpS P mb))):PS X (.While c body [] pos) (LS X.K Ξ (wpS P (.ij mc mb))) :=
 (Wu hp hc hb).imp λN bC H aV=>by
  obtain⟨Z,g,ρ,s,R,h⟩:=aV;obtain⟨W,⟨m0,w0⟩,h⟩:=h;refine⟨λm cP H'=>∃bD g' bw,Ext ρ H bw H'/\k7 X.K bw H' bD cP/\Rl X.K bw g' H'/\W m bD g',⟨m0,Z,g,ρ,.refl _ _,s,R,w0⟩,?_⟩;rintro m cP H' ⟨bD,g',bw,e1,s',R',w'⟩;refine mQ hP s' R' e1 (h m bD g' w') λt g1 bB H1 e2 R1 q=>?_;cases t
  ·exact q bB H1 cP (e1.trans e2) R1 (s'.ext e2)
  ·obtain⟨N2,wM,q⟩:=q;refine⟨λjd H2=>∃cw g2 dI,Ext ρ H dI H2/\k7 X.K dI H2 cw jd/\Rl X.K dI g2 H2/\N2 cw g2,?_,?_⟩
   ·rintro jd H2 ⟨cw,g2,dI,e3,s2,R2,n2⟩;obtain⟨m',hm,w2⟩:=wM cw g2 n2;exact⟨m',hm,cw,g2,dI,e3,s2,R2,w2⟩
   ·refine oY hP (s'.ext e2) R1 (e1.trans e2) q ⟨?_,?_,?_,?_⟩
    ·exact λgH g3 n3 gX H3 jB e3 R3 s3=>⟨gH,g3,gX,(e1.trans e2).trans e3,s3,R3,n3⟩
    ·exact λd g3 h=>h.ext (e1.trans e2)
    ·exact λgH g3 h gX H3 jB e3 R3 s3=>h gX H3 jB ((e1.trans e2).trans e3) R3 s3
    ·exact λgH g3 n3 gX H3 jB e3 R3 s3=>⟨gH,g3,gX,(e1.trans e2).trans e3,s3,R3,n3⟩
theorem Ko{iter:Expr}{mb:MS}(hp:PassesOwn (model X.prog X.w) X.A X.env X.xe)(hc:X.calm=true)(hi:PI X tg iter (LI X.K Ξ (fZ P mi)))(hg:PG X tg (LG X.K t))(hb:ic X body (LS X.K Ξ (wpS P mb)))(hs:∀x,foldedSetIterable iter X.env x=pure x):PS X (.For tg iter body [] pos) (LS X.K Ξ (wpS P (.dU t mi mb))) :=
 (JF hp hc hi hg hb hs).imp λN bC H aV=>by
  obtain⟨Z,g,ρ,s,R,h⟩:=aV;refine⟨Z,g,ρ,s,R,v5 hP mi _ _ _ _ _ _ (λk g1 h bB H1 J e1 R1 j1=>?_) (λ_ _ z=>z) h⟩;obtain⟨W,⟨m0,w0⟩,h⟩:=h;refine⟨λi m cP H'=>∃bD g' bw,Ext bB H1 bw H'/\k7 X.K bw H' bD cP/\Rl X.K bw g' H'/\W i m bD g',⟨m0,Z,g1,bB,.refl _ _,s.ext e1,R1,w0⟩,?_⟩;rintro i m cP H' ⟨bD,g',bw,e',s',R',w'⟩;obtain⟨qJ,qI⟩:=j1 bw g' H' e' R' i;rcases h i m bD g' w' with⟨ek,q⟩|⟨x,ek,N2,wM,q⟩
  ·exact .inl ⟨qJ ek,q bw H' cP (e1.trans e') R' s'⟩
  ·obtain⟨go,yl⟩:=qI x ek;refine .inr ⟨go,λjd H2=>∃cw g2 dI,Ext bB H1 dI H2/\k7 X.K dI H2 cw jd/\Rl X.K dI g2 H2/\N2 cw g2,?_,?_⟩
   ·rintro jd H2 ⟨cw,g2,dI,e2,s2,R2,n2⟩;obtain⟨m',hm,w2⟩:=wM cw g2 n2;exact⟨m',hm,cw,g2,dI,e2,s2,R2,w2⟩
   ·intro v H2 y;obtain⟨e2,R2,r2⟩:=yl v H2 y;refine⟨x,bD,g',bw,s'.ext e2,R2,r2,v7 (λcw q jd s2=>?_) q⟩;refine oY hP s2 R2 (e1.trans (e'.trans e2)) q ⟨?_,?_,?_,?_⟩
    ·exact λgH g3 n3 gX H3 jB e3 R3 s3=>⟨gH,g3,gX,(e'.trans e2).trans e3,s3,R3,n3⟩
    ·exact λd g3 h=>h.ext (e1.trans (e'.trans e2))
    ·exact λgH g3 h gX H3 jB e3 R3 s3=>h gX H3 jB (e1.trans ((e'.trans e2).trans e3)) R3 s3
    ·exact λgH g3 n3 gX H3 jB e3 R3 s3=>⟨gH,g3,gX,(e'.trans e2).trans e3,s3,R3,n3⟩
theorem FG{d0:List Nat}{gZ me:ME}:∀bC H Q,LE X.K Ξ (aP P (.comp d0 n t mi gZ me)) bC H Q->zt (LI X.K Ξ (fZ P mi)) d0 n (LG X.K t) (LT X.K (lS Ξ.1) (da P gZ)) (LE X.K (lS Ξ.1) (aP P me)) bC H Q:=λbC H Q aV=>by
 obtain⟨Z,g,ρ,s,R,h⟩:=aV;refine⟨Z,g,ρ,s,R,v5 hP mi _ _ _ _ _ _ (λk g1 h bB H1 J e1 R1 j1=>?_) (λ_ _ z=>z) h⟩;obtain⟨W,⟨m0,w0⟩,h⟩:=h;refine⟨λi m Ak cP H'=>∃ys bD g' bw,Ext bB H1 bw H'/\k7 X.K bw H' bD cP/\Rl X.K bw g' H'/\b6 X.K bw H' ys Ak/\W i m ys bD g',⟨m0,[],_,g1,bB,.refl _ _,(s.ext e1).d0 d0 n,R1,.nil,w0⟩,?_⟩;rintro i m Ak cP H' ⟨ys,bD,g',bw,e',s',R',ry,w'⟩;obtain⟨qJ,qI⟩:=j1 bw g' H' e' R' i;rcases h i m ys bD g' w' with⟨ek,q⟩|⟨x,ek,hz,q⟩
 ·exact .inl ⟨qJ ek,λp hp=>(q.ext (e1.trans e')).new R' hp ry⟩
 ·obtain⟨go,yl⟩:=qI x ek;refine .inr ⟨go,by rw[<- ry.length];exact yy hz,λv H2 y=>?_⟩;obtain⟨e2,R2,r2⟩:=yl v H2 y;refine⟨x,bD,g',bw,s'.ext e2,R2,r2,v7 (λcw q jd s2=>?_) q⟩;refine⟨cw,g',bw,s2,R2,k8 hP gZ _ _ _ _ _ _ (λb g3 q gX H3 e3 R3=>?_) (λ_ _ z=>z.elim) q⟩;cases b
  ·obtain⟨m',hm,w3⟩:=q;exact⟨m',hm,ys,cw,g3,gX,(e'.trans e2).trans e3,s2.ext e3,R3,(ry.ext e2).ext e3,by simpa using w3⟩
  ·refine⟨cw,g3,gX,s2.ext e3,R3,b7 hP me _ _ _ _ _ _ (λz g4 q jY H4 v4 e4 R4 r4=>?_) (λ_ _ z=>z.elim) q⟩;obtain⟨m',hm,w4⟩:=q;exact⟨m',hm,ys++[z],cw,g4,jY,(e'.trans e2).trans (e3.trans e4),(s2.ext e3).ext e4,R4,(((ry.ext e2).ext e3).ext e4).append (.cons r4 .nil),by simpa using w4⟩
theorem WI{elt iter:Expr}{ifs:List Expr}{N':List Str}{d0:List Nat}{cl:List (Str×Addr)}{p2 iL:Pos}{gZ me:ME}(S:cZ X scope N' d0 cl)(hc:X.calm=true)(hi:PI X tg iter (LI X.K Ξ (fZ P mi)))(hg:∀pins C s H fp,PG (d7 X pins scope N' cl C s H fp) tg (LG X.K t))(ht:∀pins C s H fp,jU (d7 X pins scope N' cl C s H fp) ifs (LT X.K (lS Ξ.1) (da P gZ)))(he:∀pins C s H fp,PE (d7 X pins scope N' cl C s H fp) elt (LE X.K (lS Ξ.1) (aP P me)))(hs:∀x,foldedSetIterable iter X.env x=pure x)(lp:Gl X "sorted")(mD:X.mg "sorted"=none):PE X (.Call (.Name "sorted" p2) [.SetComp elt [⟨tg,iter,ifs,0⟩] scope pos] [] iL) (LE X.K Ξ (aP P (.gb d0 N'.length t mi gZ me))) :=
 (X5 (T3 hc) lp mD (by first|exact fY|decide +kernel) (P0 (Wm S hc hi hg ht he hs) U8)).imp λbC H Q aV=>by
  obtain⟨Z,g,ρ,s,R,h⟩:=aV;refine⟨Z,g,ρ,s,R,v5 hP mi _ _ _ _ _ _ (λk g1 h bB H1 J e1 R1 j1=>?_) (λ_ _ z=>z) h⟩;obtain⟨W,⟨m0,w0⟩,h⟩:=h;refine⟨λi m ys cP H'=>∃bD g' bw,Ext bB H1 bw H'/\k7 X.K bw H' bD cP/\Rl X.K bw g' H'/\W i m ys bD g',⟨m0,_,g1,bB,.refl _ _,(s.ext e1).d0 d0 _,R1,w0⟩,?_⟩;rintro i m ys cP H' ⟨bD,g',bw,e',s',R',w'⟩;obtain⟨qJ,qI⟩:=j1 bw g' H' e' R' i;rcases h i m ys bD g' w' with⟨ek,hz,q⟩|⟨x,ek,hz,q⟩
  ·exact .inl ⟨qJ ek,λp hp=>⟨p,ys,rfl,m6,hz,λp' fL=>(q.ext ((e1.trans e').trans (q9 hp))).new (R'.grow hp) fL (b6.ofInts _)⟩⟩
  ·obtain⟨go,yl⟩:=qI x ek;refine .inr ⟨go,hz,λv H2 y=>?_⟩;obtain⟨e2,R2,r2⟩:=yl v H2 y;refine⟨x,bD,g',bw,s'.ext e2,R2,r2,v7 (λcw q jd s2=>?_) q⟩;refine⟨cw,g',bw,s2,R2,k8 hP gZ _ _ _ _ _ _ (λb g3 q gX H3 e3 R3=>?_) (λ_ _ z=>z.elim) q⟩;cases b
   ·obtain⟨m',hm,w3⟩:=q;exact⟨m',hm,cw,g3,gX,(e'.trans e2).trans e3,s2.ext e3,R3,by simpa using w3⟩
   ·refine⟨cw,g3,gX,s2.ext e3,R3,b7 hP me _ _ _ _ _ _ (λz g4 q jY H4 v4 e4 R4 r4=>?_) (λ_ _ z=>z.elim) q⟩;obtain⟨j,rfl,m',hm,w4⟩:=q;obtain rfl:=r4.j0;exact⟨j,rfl,m',hm,cw,g4,jY,(e'.trans e2).trans (e3.trans e4),(s2.ext e3).ext e4,R4,by simpa using w4⟩
end
section
variable(hP:i0 P)
include hP
theorem WR{C:Addr}{B newId fP:String}{bm:List Value}{np dy:Pos}{iP:Expr}{rest:List Expr}{fB:ME}(hc:X.calm=true)(O:OwnCls x C bm newId X.mg X.base)(FB:ExcBaseFacts B newId fP bm)(hg:Gl X x)(ha:PA X (iP::rest) (LA X.K Ξ (eJ P fB)))(hr:uL X Ξ.2)(hx:x∈Ξ.1)(hC:m7 X.K x C)(he:starEach (iP::rest) X.env=(false,eval iP X.env)::starEach rest X.env)(dP:(backTo dy (starEach rest X.env)).any (·.1)=false)(hd:(x==("__debug__":Str))=false):PS X (.Raise (some (.Call (.Name x np) (iP::rest) [] dy)) none pos) (LS X.K Ξ (wpS P (.raise x fB))) :=
 (Wt hc O FB hg ha hr he dP hd).imp λN bC H aV=>by
  obtain⟨Z,g,ρ,s,R,h⟩:=aV;refine iA hP s R (.refl _ _) h λds g1 bB H1 vs e1 R1 r1 h=>?_;exact⟨by rw[<- r1.length];exact j7 (aL h.1 (by decide)),h.2 bB H1 C e1 R1 hx hC⟩
def vi(X:Cx)(ex:List Str)(D:L2.Ends)(hs:List ExceptHandler):gn:=(ex,λv _ H=>∃C,v=.ref C/\Z8 X D C H hs)
inductive km(X:Cx)(Ξ:gn)(P:eG):List ExceptHandler->List (Str×ME)->Prop
 |nil (hh:sN X Ξ.2):km X Ξ P [] []
 |cons {y:Str} {C':Addr} {p p1 p2:Pos} {e:Expr} {me:ME} {hs:List ExceptHandler} {ms:List (Str×ME)} (hg:Gl X y) (hd:(y==("__debug__":Str))=false) (hm:X.mg y=some (.ref C'))
   (hx:∀x C,x∈Ξ.1->m7 X.K x C->PySem.W.exmOne X.K (.ref C) (.ref C')=some (decide (x=y\/y="MintError"))) (he:∀ea,PE (C9 X ea) e (LE X.K (lS Ξ.1) (aP P me))) (r:km X Ξ P hs ms) :
   km X Ξ P (.ExceptHandler (some (.Name y p)) none [.Return (some e) p1] p2::hs) ((y,me)::ms)
theorem CO{N:L2.Ends}{ρ bw:List Addr}{H H':Hp}{Z:S}{g:G}{x:Xn}{C:Addr}(hl:Z.length=X.N.length)(e:Ext ρ H bw H')(R:Rl X.K bw g H')(hx:x.cls∈Ξ.1)(hC:m7 X.K x.cls C) :
  ∀{hs:List ExceptHandler} {ms:List (Str×ME)},km X Ξ P hs ms->jJ P (LN X.K ρ H N) (Z.map λ_=>none) (LX X.K ρ H Ξ) ms x g->Z8 X N C H' hs
 |_,_,.nil hh,q=>⟨Ξ.2,hh,q bw H' C e R hx hC⟩
 |_,_,.cons (me:=me) hg hd hm GW he r,q=>by
  refine⟨hg,hd,_,_,hm,GW _ _ hx hC,?_⟩;unfold jJ at q;split at q
  ·rename_i ex;rw[aJ (by simpa using ex)];refine⟨LS X.K (lS Ξ.1) (wpS P (.seq (.ret me) .pass)),λea=>Fy (X:=C9 X ea) (Ξ:=lS Ξ.1) hP (EI (X:=C9 X ea) hP (he ea)) (EH (X:=C9 X ea) hP),?_⟩;refine⟨Z.map λ_=>none,g,bw,⟨by simp[hl],λi d z=>?_⟩,R,?_⟩
   ·rw[aA] at z;cases e:Z[i]? with
    |none=>rw[e] at z;cases z
    |some y=>rw[e] at z;cases z
   ·skip
    refine b7 hP me _ _ _ _ _ _ (λd g1 h=>?_) (λ_ _ z=>z.elim) q;exact h.ext e
  ·rename_i ex;rw[aB (by simpa using ex)];exact CO hl e R hx hC r q
theorem Kq{h₀:ExceptHandler}{hs:List ExceptHandler}{ms:List (Str×ME)}(et:X.stack=X.env::X.outer)(hf:X.env.frame=some X.env.locals)(hb:∀pins D,ic (S0 X pins (pY X pins D (h₀::hs))) body (LS X.K (vi X Ξ.1 D (h₀::hs)) (wpS P mb)))(hh:km X Ξ P (h₀::hs) ms):PS X (.Try body (h₀::hs) [] [] pos) (LS X.K Ξ (wpS P (.W7 mb ms))):=by
 intro pins s bC H N I ⟨Z,g,ρ,sr,R,h⟩;refine JI (t:=λD=>LS X.K (vi X Ξ.1 D (h₀::hs)) (wpS P mb)) (Ξ:=λD=>(vi X Ξ.1 D (h₀::hs)).2) et hf (λpins D _=>hb pins D) pins s bC H N I ⟨λC H' ⟨C',e,z⟩=>by cases e;exact z,?_⟩;refine⟨Z,g,ρ,sr,R,wpS_mono hP mb _ _ _ _ _ _ ⟨λ_ _ z=>z,λ_ _ z=>z,λ_ _ z=>z,λ_ _ z=>z⟩ (λx g1 q bw H' C e' R' hm hc=>⟨C,rfl,?_⟩) h⟩;exact CO (Ξ:=Ξ) hP (sr.len.trans I.len) e' R' hm hc hh q
end
structure f6 where
 N:List Str
 nm:List (Str×NameKind)
 kA:Bool
 fns:List (Str×Nat)
 con:List (Str×D)
 blt:List Str
 exc:List Str
 gd:List (Str×List D)
 cls:List (Str×Nat)
 lG:List (Str×Str×Nat)
 lO:List (Str×Str)
 iK:Bool
 ik:Bool
def fb:Expr->Bool
 |.Set ..=>false
 |.Starred ..=>false
 |.Slice ..=>false
 |_=>true
def q8:Expr->Bool
 |.ListComp ..=>false
 |.SetComp ..=>false
 |.DictComp ..=>false
 |_=>true
def pX:Expr->Bool
 |.Tuple ..=>false
 |_=>true
def zc:Expr->Bool
 |.Name ..=>true
 |.Call ..=>true
 |.Subscript ..=>true
 |.Constant ..=>true
 |.Attribute ..=>true
 |.BinOp ..=>true
 |_=>false
def sS:Expr->Bool
 |.Call (.Name ..) ..=>false
 |_=>true
def f6.idx(c:f6)(x:Str):Option Nat:=c.N.findIdx? λy=>decide (y=x)
def f6.qk(c:f6)(x:Str):Bool:=match c.nm.lookup x with
 |some .local=>true
 |some .cell=>true
 |some .free=>true
 |_=>false
def f6.gl(c:f6)(x:Str):Bool:=decide (c.nm.lookup x=some .globalImplicit)
def f6.u7(c:f6)(x:Str):Bool:=decide (c.nm.lookup x=some .local)||decide (c.nm.lookup x=some .cell)
def Y0(x:Str):Bool:=(x==("__debug__":Str))==false&&(x==("__classdict__":Str))==false&&decide (x≠"__name__")
def zw:List (Str×String):=[("int","int"),("bool","bool"),("str","str"),("tuple","tuple"),("list","list")]
def zC:List (Str×Pr):=[("len",.len),("list",.list),("isinstance",.isin),("all",.all),("int",.int),("sorted",.eh),("sum",.sum)]
def V1:List (Str×Pr):=[("clear",.clear),("pop",.nQ)]
def zK:List (Str×Pr):=[("append",.append),("pop",.pop),("add",.kd)]
def uM:Expr->Option (Str×List Expr)
 |.Call (.Name x _) args [] _=>some (x,args)
 |_=>none
def BQ:Expr->Bool
 |.Tuple ..=>true
 |_=>false
def asName:Expr->Option Str
 |.Name x _=>some x
 |_=>none
def frees(sc:Scope):List Str:=(sc.names.filter λy=>decide (y.2=.free)).map (·.1)
def locals(sc:Scope):List Str:=(sc.names.filter λy=>decide (y.2=.local)||decide (y.2=.cell)).map (·.1)
def f6.inner(c:f6)(sc:Scope):f6:={ c with N:=frees sc++locals sc,nm:=sc.names,kA:=false,iK:=false,ik:=false }
def f6.d0(c:f6)(sc:Scope):List Nat:=(frees sc).map λx=>(c.idx x).getD 0
def f6.yD(c:f6)(sc:Scope):Bool :=
 decide (sc.kind=.function)&&sc.names.all (λy=>!decide (y.2=.cell)||decide (sc.names.lookup y.1=some .cell))&&sc.names.all (λy=>!decide (y.2=.local)||decide (sc.names.lookup y.1=some .local)) &&
 decide (frees sc++locals sc).Nodup&&(frees sc).all (λx=>(c.idx x).isSome&&decide (sc.names.lookup x=some .free)&&(decide (c.nm.lookup x=some .cell)||decide (c.nm.lookup x=some .free)))
def f6.slot(c:f6)(e:Expr):Option Nat:=(asName e).bind λx=>if c.u7 x then c.idx x else none
def f6.slots(c:f6):List Expr->Option (List Nat)
 |[]=>some []
 |e::r=>(c.slot e).bind λi=>(c.slots r).map λis=>i::is
def f6.tg(c:f6)(e:Expr):Option MT:=((c.slot e).map .one).orElse λ_=>match e with
 |.Tuple es _ _=>(c.slots es).map .many
 |_=>none
def Z4:Const->Option D
 |.int i=>some (.int i)
 |.bool b=>some (.bl b)
 |.none=>some .aX
 |.str x=>some (.str x)
 |_=>none
structure CF where
 e:f6->Expr->Option ME
 t:f6->Expr->Option ME
 s:f6->Stmt->Option MS
section
variable(r:CF)(c:f6)
def c1(p:Pr)(a:Expr):Option ME:=(r.e c a).map λm=>.prim p (.cons m .nil)
def c2(p:Pr)(a b:Expr):Option ME:=(r.e c a).bind λma=>(r.e c b).map λmb=>.prim p (.cons ma (.cons mb .nil))
def F3:List Expr->Option ME
 |[]=>some .nil
 |e::es=>if fb e then(r.e c e).bind λm=>(F3 es).map λms=>.cons m ms else none
def Em:Expr->Option Str
 |.Constant (.str x) _ _=>some x
 |_=>none
def Cy:Expr->Option Expr
 |.FormattedValue e k none _=>if k=-1 then some e else none
 |_=>none
def pR:List Expr->Option ME
 |[]=>some .nil
 |e::es=>((Em e).bind λx=>if x.length<=2000 then(pR es).map λms=>.cons (.lit (.str x)) ms else none).orElse λ_ =>
   (Cy e).bind λa=>(r.e c a).bind λm=>(pR es).map λms=>.cons (.prim .fv (.cons m .nil)) ms
def sx:List (Option Expr)->List Expr->Option ME
 |[],[]=>some .nil
 |some k::ks,v::vs=>(r.e c k).bind λmk=>(r.e c v).bind λmv=>(sx ks vs).map λms=>.cons mk (.cons mv ms)
 |_,_=>none
def uh(op:BoolOp):List Expr->Option ME
 |[]=>none
 |[a]=>r.e c a
 |a::b::rs=>(r.e c a).bind λma=>(uh op (b::rs)).map λmb=>match op with
  |.And=>.dk ma mb
  |.Or=>.gK ma mb
def ui(op:BoolOp):List Expr->Option ME
 |[]=>none
 |[a]=>r.t c a
 |a::b::rs=>(r.t c a).bind λma=>(ui op (b::rs)).map λmb=>match op with
  |.And=>.dk ma mb
  |.Or=>.gK ma mb
def En:List Expr->Option ME
 |[]=>some .no
 |[e]=>r.t c e
 |_=>none
def p6:List Stmt->Option MS
 |[]=>some .pass
 |s::rs=>(r.s c s).bind λm=>(p6 rs).map λms=>.seq m ms
def zy(x:Str):Option ME :=
 if Y0 x then(if c.qk x then(c.idx x).map .var else if c.gl x then((c.con.lookup x).map .lit).orElse λ_=>if c.blt.contains x then(zw.lookup x).map λt=>.lit (.ty t) else none else none) else none
def vy(op:UnaryOp)(a:Expr):Option ME:=if op=.Not then(r.e c a).map .cJ else c1 r c (.un op) a
def f6.vb(b:Expr):Option (List D):=(asName b).bind λx=>if c.gl x&&Y0 x then c.gd.lookup x else none
def NG:CmpOp->Option Bool
 |.In=>some false
 |.NotIn=>some true
 |_=>none
def sm(a:Expr)(ops:List CmpOp)(bs:List Expr):Option ME:=match ops,bs with
 |[op],[b]=>if behindInMarks op b then none else((NG op).bind λneg=>(c.vb b).bind λkvs=>(r.e c a).map λma=>.prim (uo neg) (.cons (.lit (.tup kvs)) (.cons ma .nil))).orElse λ_=>c2 r c (.cmp op) a b
 |[op,gC],[b,d]=>if lastMarks [op,gC] [b,d] then none else(r.e c a).bind λma=>(r.e c b).bind λmb=>(r.e c d).map λmd=>.chain op gC ma mb md
 |_,_=>none
def Ni:Expr->Option (Option Expr×Option Expr×Option Expr)
 |.Slice lo hi st _=>some (lo,hi,st)
 |_=>none
def Al(a:Expr):Option Expr->Option Expr->Option Expr->Option ME
 |none,none,none=>c1 r c (.jg false false) a
 |some b,none,none=>c2 r c (.jg true false) a b
 |none,some b,none=>c2 r c (.jg false true) a b
 |_,_,_=>none
def zV(a b:Expr):Option ME:=((Ni b).bind λq=>Al r c a q.1 q.2.1 q.2.2).orElse λ_=>if fb b then((c.vb a).bind λkvs=>(r.e c b).map λmb=>.prim .lB (.cons (.lit (.tup kvs)) (.cons mb .nil))).orElse λ_=>c2 r c .ix a b else none
def vz(x:Str)(e:Expr):Option ME:=(uM e).bind λq =>
 if x="list" && q.1="range" && c.blt.contains "list" && c.blt.contains "range" && c.gl "range" then (match q.2 with
  |[a]=>if fb a then c1 r c .kT a else none
  |[a,b]=>if fb a&&fb b then c2 r c .kS a b else none
  | _=>none)
 else if x="sorted" && q.1="set" && c.blt.contains "sorted" && c.blt.contains "set" && c.gl "set" then (match q.2 with
  |[a]=>if fb a then c1 r c .sset a else none
  | _=>none)
 else if x="len" && q.1="set" && c.blt.contains "len" && c.blt.contains "set" && c.gl "set" then (match q.2 with
  |[a]=>if fb a then c1 r c .Q5 a else none
  | _=>none)
 else none
def OS(x:Str)(e:Expr):List Expr->Option ME
 |[]=>vz r c x e
 |_=>none
def yg(x:Str):Option ME:=if Y0 x&&c.gl x then((c.fns.lookup x).map λf=>.call f .nil).orElse λ_=>(c.cls.lookup x).map λf=>.make x f .nil else none
def yh(x:Str)(e:Expr)(es:List Expr):Option ME:=if Y0 x&&c.gl x then(OS r c x e es).orElse λ_=>(F3 r c (e::es)).bind λms=>((c.fns.lookup x).map λf=>.call f ms).orElse λ_=>((c.cls.lookup x).map λf=>.make x f ms).orElse λ_=>if c.blt.contains x then(zC.lookup x).map λp=>.prim p ms else none else none
def EN(x:Str):List Expr->Option ME
 |[]=>yg c x
 |e::es=>yh r c x e es
def f6.meths(m:Str):List (Str×Nat):=(c.lG.filter λy=>decide (y.1=m)).map (·.2)
def yi(o:Expr)(m:Str)(apos pos:Pos)(args:List Expr):Option ME :=
 if sS o && (apos.endLine == pos.line) && decide (args.length < 20) then (r.e c o).bind λmo=>(F3 r c args).bind λms=>if m="index" then (if args.isEmpty then none else some (.dS .index mo ms)) else if args.isEmpty && (V1.lookup m).isSome then (V1.lookup m).map λp=>.dS p mo ms else (match zK.lookup m with
  |some p=>if args.isEmpty then none else some (.dS p mo ms)
  | none=>some (.bp m (c.meths m) mo ms)) else none
def zx(f:Expr)(args:List Expr)(ip:List Keyword)(pos:Pos):Option ME:=if ip.isEmpty then(match f with
 |.Name x _=>EN r c x args
 |.Attribute o m apos=>yi r c o m apos pos args
 | _=>none) else none
def sA(tg e:Expr):Option ME:=(((uM e).bind λq =>
  if q.1="enumerate" then (match q.2 with
   |[a]=>if c.gl "enumerate"&&c.blt.contains "enumerate"&&fb a&&BQ tg then(r.e c a).map .jC else none
   | _=>none)
  else if q.1="reversed" then (match q.2 with
   |[a]=>if c.gl "reversed"&&c.blt.contains "reversed"&&fb a then(r.e c a).map .mq else none
   | _=>none)
  else if q.1="range" then (match q.2 with
   |[a]=>if c.gl "range"&&c.blt.contains "range"&&fb a then(r.e c a).map .fc else none
   |[a,b]=>if c.gl "range"&&c.blt.contains "range"&&fb a&&fb b then(r.e c a).bind λma=>(r.e c b).map λmb=>.iq ma mb else none
   | _=>none)
  else none):Option ME).orElse λ_=>if fb e then (r.e c e).map .ei else none
def V6(elt:Expr)(gens:List Comprehension)(sc:Scope):Option ME:=match gens with
 |[⟨tg,it,ifs,AK⟩]=>if c.yD sc&&decide (AK=0)&&fb it then((c.inner sc).tg tg).bind λt=>(sA r c tg it).bind λmi=>(En r (c.inner sc) ifs).bind λmc=>(r.e (c.inner sc) elt).map λme=>.comp (c.d0 sc) (frees sc++locals sc).length t mi mc me else none
 |_=>none
def Ng:Expr->Option Str
 |.Name x _=>some x
 |_=>none
def Nh:Expr->Option (Expr×List Comprehension×Scope)
 |.SetComp elt gens sc _=>some (elt,gens,sc)
 |_=>none
def ON:ME->Option ME
 |.comp a n t i k e=>some (.gb a n t i k e)
 |_=>none
def vA(f:Expr)(args:List Expr)(ip:List Keyword):Option ME:=match args with
 |[a]=>if ip.isEmpty&&decide (Ng f=some "sorted")&&c.gl "sorted"&&c.blt.contains "sorted" then(Nh a).bind λq=>(V6 r c q.1 q.2.1 q.2.2).bind ON else none
 |_=>none
def tK(f:Expr)(args:List Expr)(ip:List Keyword):Option ME:=(λ(_:f6)=>none) c
def zU(es:List Expr)(k:Nat):Option ME:=if c.kA&&decide (k=0) then(match es with
 |[.Constant (.int i) _ _]=>some (.prim (.jL i) .nil)
 | _=>none) else none
def Co:Expr->Option ME
 |.Name x _=>zy c x
 |.Constant k _ _=>(Z4 k).map .lit
 |.BinOp a op b _=>c2 r c (.bin op) a b
 |.UnaryOp op a _=>vy r c op a
 |.Compare a ops bs _=>sm r c a ops bs
 |.BoolOp op vs _=>uh r c op vs
 |.IfExp t a b _=>(r.t c t).bind λmt=>(r.e c a).bind λma=>(r.e c b).map λmb=>.ite mt ma mb
 |.Tuple es _ _=>(F3 r c es).map (.prim .tup)
 |.List es _=>(F3 r c es).map (.prim .lst)
 |.Subscript a b _=>zV r c a b
 |.Dict ks vs _=>if ks.isEmpty&&vs.isEmpty then some (.prim .N8 .nil) else if decide (ks.length<=15) then(sx r c ks vs).map .lR else none
 |.JoinedStr vs _=>if decide (2<=vs.length)&&decide (vs.length<=40) then(pR r c vs).map (.prim .lC) else none
 |.Attribute o f _=>if sS o then c1 r c (.fld f) o else none
 |.Call f args ip pos=>(vA r c f args ip).orElse λ_=>(tK c f args ip).orElse λ_=>zx r c f args ip pos
 |.ListComp elt gens sc _=>V6 r c elt gens sc
 |.Set es k _=>zU c es k
 |_=>none
def stepT:Expr->Option ME
 |.UnaryOp op a _=>if op=.Not then(r.t c a).map .cJ else none
 |.BoolOp op vs _=>ui r c op vs
 |.Compare a ops bs _=>(sm r c a ops bs).map .dA
 |e=>if zc e then(r.e c e).map .dA else none
def BP:Expr->Option (Str×Pos)
 |.Name x p=>some (x,p)
 |_=>none
def OW:Expr->Option (Expr×Expr)
 | .Tuple es _ _=>(match es with
  |[a,b]=>some (a,b)
  | _=>none)
 |_=>none
def f6.zP(x:Str)(px:Pos)(y:Str)(py:Pos)(a b:Expr):Bool:=decide (c.nm.lookup x=some .local)&&decide (c.nm.lookup y=some .local)&&decide (x≠y)&&decide (py.line=px.line)&&fb a&&fb b&&!([a,b].all (foldedForSure 8))&&!([a,b].all (constantsAlone 8))
def f6.ux:List Expr->Expr->Bool
 |[s,t],e=>((BP s).bind λp=>(BP t).bind λq=>(OW e).map λz=>c.zP p.1 p.2 q.1 q.2 z.1 z.2).getD false
 |_,_=>false
def BV:Expr->Option ME
 |.Constant k _ _=>(Z4 k).map .lit
 |_=>none
def uD:List Expr->Option ME
 |[]=>some .nil
 |e::es=>(BV e).bind λm=>(uD es).map λms=>.cons m ms
def BU:Expr->Option ME
 |.List es _=>(uD es).map (.prim .lst)
 |.Constant k _ _=>(Z4 k).map .lit
 |_=>none
def OV:List Stmt->Option Expr
 | [s]=>(match s with
  |.Return e _=>e
  | _=>none)
 |_=>none
def zA:ExceptHandler->Option (Str×Expr)
 |.ExceptHandler t n b _=>if n.isNone then t.bind λt=>(asName t).bind λy=>(OV b).map λe=>(y,e) else none
def sy:List ExceptHandler->Option (List (Str×ME))
 |[]=>some []
 |h::hs=>(zA h).bind λq=>if c.exc.contains q.1&&c.gl q.1&&Y0 q.1 then(BU q.2).bind λm=>(sy hs).map λms=>(q.1,m)::ms else none
def ym(e f:Option Expr):Option (Str×Expr×List Expr):=if f.isNone then e.bind λe=>(uM e).bind λq=>q.2.head?.map λa=>(q.1,a,q.2.tail) else none
def f6.pK(f:Str):List Str:=(c.lO.filter λy=>decide (y.1=f)).map (·.2)
def zB:List Expr->Option (Expr×Expr×Expr×Expr)
 |_=>none
def BC(tg e:Expr):Option MS:=match tg with
 |.Name x _=>if c.u7 x then(c.idx x).bind λi=>(r.e c e).map λm=>.set i m else none
 |.Tuple es _ _=>(zB es).elim (if(pX e&&q8 e)||c.ux es e then(c.slots es).bind λis=>(r.e c e).map λm=>.kJ (.many is) m else none) λq=>if q8 e&&fb q.2.1&&fb q.2.2.2 then(r.e c q.1).bind λm1=>(r.e c q.2.1).bind λn1=>(r.e c q.2.2.1).bind λm2=>(r.e c q.2.2.2).bind λn2=>(r.e c e).map λm=>.tN m1 n1 m2 n2 m else none
 |.Subscript o i _=>if fb i&&q8 e then(r.e c o).bind λmo=>(r.e c i).bind λmi=>(r.e c e).map λm=>.cF mo mi m else none
 |.Attribute o f _=>if q8 e then(r.e c o).bind λmo=>(r.e c e).map λm=>.fk f (c.pK f) mo m else none
 |_=>none
def BR:Operator->Option Pr
 |.Add=>some .iadd
 |.Sub=>some .mr
 |_=>none
def toR(e:Expr)(m:ME):ME:=(λ(_:f6)=>m) c
def Cp:Stmt->Option MS
 |.Expr e _=>if q8 e then(r.e c e).map .expr else none
 | .Assign vG e _=>(match vG with
  |[tg]=>BC r c tg e
  | _=>none)
 | .AugAssign tg op e _=>(match tg with
  |.Attribute o f _=>if decide (op=.Add) then(r.e c o).bind λmo=>(r.e c e).map λm=>.jo f (c.pK f) mo m else none
  |.Name x _=>if c.u7 x then(BR op).bind λp=>(c.idx x).bind λi=>(r.e c e).map λm=>.iR i p m else none
  | _=>none)
 |.If t a b _=>(r.t c t).bind λmt=>(p6 r c a).bind λma=>(p6 r c b).map λmb=>.ifs mt ma mb
 |.For tg it body mJ _=>if c.kA&&(mJ.isEmpty&&fb it) then(c.tg tg).bind λt=>(sA r c tg it).bind λmi=>(p6 r c body).map λmb=>.dU t mi mb else none
 |.While t body mJ _=>if c.kA&&mJ.isEmpty then(r.t c t).bind λmt=>(p6 r c body).map λmb=>.ij mt mb else none
 | .Return e _=>(match e with
  |some e=>(r.e c e).map λm=>.ret (toR c e m)
  | none=>some .nN)
 |.Pass _=>some .pass
 |.Raise e f _=>(ym e f).bind λq=>if c.iK&&c.exc.contains q.1&&c.gl q.1&&Y0 q.1 then(F3 r c (q.2.1::q.2.2)).map (.raise q.1) else none
 |.Try body hs el fi _=>if c.ik&&!hs.isEmpty&&el.isEmpty&&fi.isEmpty then(p6 r { c with iK:=false,ik:=false } body).bind λmb=>(sy c hs).map λms=>.W7 mb ms else none
 |_=>none
end
def comp:Nat->CF
 |0=>⟨λ_ _=>none,λ_ _=>none,λ_ _=>none⟩
 |n+1=>⟨Co (comp n),stepT (comp n),λc s=>(Cp (comp n) c s).orElse λ_=>some (.expr .no)⟩
structure gh(X:Cx)(c:f6)(P:eG)(Ξ:gn):Prop where
 N:X.N=c.N
 nd:c.N.Nodup
 loc:∀x,c.nm.lookup x=some .local->X.env.scope.names.lookup x=some .local
 ud:∀x,c.nm.lookup x=some .cell->X.env.scope.names.lookup x=some .cell
 xB:∀x,c.nm.lookup x=some .free->X.env.scope.names.lookup x=some .cell\/X.env.scope.names.lookup x=some .free
 Bk:∀x,c.nm.lookup x=some .globalImplicit->X.env.scope.names.lookup x=some .globalImplicit
 cells:∀x,(c.nm.lookup x=some .cell\/c.nm.lookup x=some .free)->∃a,X.env.cells.lookup x=some a
 kA:∀x,c.nm.lookup x=some .cell->X.fn x=true
 calm:X.calm=true
 units:X.A.units+100<cLine
 own:c.kA=true->PassesOwn (model X.prog X.w) X.A X.env X.xe
 mono:i0 P
 con:∀x d,c.con.lookup x=some d->∃v u,X.mg x=some u/\RelV v u/\∀ρ H,d6 X.K ρ H d v
 blt:∀x,c.blt.contains x=true->X.mg x=none
 fns:∀x f,c.fns.lookup x=some f->∃k fa fd ps,lT X P Ξ.1 k f fa fd ps/\n8 k X.A/\X.mg x=some (.ref fa)/\PySem.W.keepIn X.K (.ref fa)=true
 cls:∀x f,c.cls.lookup x=some f->∃k C fa fd ps,lT X P Ξ.1 k f fa fd ps/\n8 (k+1) X.A/\X.mg x=some (.ref C)/\m7 X.K x C/\ie X.K C/\Mk X.K C fa
 lG:∀m y f C,(m,y,f)∈c.lG->m7 X.K y C->∃k fa fd ps,Meth X.K C m fa/\lT X P Ξ.1 k f fa fd ps/\n8 k X.A
 lO:∀f y C,(f,y)∈c.lO->m7 X.K y C->u6 X.K C f
 ub:Ξ.1=c.exc
 pass:Passes (gg X.prog X.w) X Ξ.2
 iK:c.iK=true->uL X Ξ.2
 ik:c.ik=true->X.stack=X.env::X.outer/\X.env.frame=some X.env.locals/\sN X Ξ.2
 exc:∀x,c.exc.contains x=true->∃C,X.mg x=some (.ref C)/\m7 X.K x C/\∃B newId fP bm,OwnCls x C bm newId X.mg X.base/\ExcBaseFacts B newId fP bm
 xF:∀x y C C',c.exc.contains x=true->c.exc.contains y=true->m7 X.K x C->m7 X.K y C'->PySem.W.exmOne X.K (.ref C) (.ref C')=some (decide (x=y\/y="MintError"))
 rR:∀x kvs,c.gd.lookup x=some kvs->ue X x kvs
 code:c.kA=true->PySem.W.kdsCode X.K X.env.code=true
theorem Lj(h:c.idx x=some i):c.N[i]?=some x:=by
 unfold f6.idx at h;rw[js] at h;obtain⟨h1,h2,_⟩:=h;rw[aC h1,aS h2]
theorem gh.QS(C:gh X c P Ξ)(h:c.qk x=true):sY X.env.scope x:=by
 unfold f6.qk at h;split at h
 ·rename_i e;exact .inl (C.loc x e)
 ·rename_i e;exact .inr (.inl (C.ud x e))
 ·rename_i e;rcases C.xB x e with z|z
  ·exact .inr (.inl z)
  ·exact .inr (.inr z)
 ·cases h
theorem gh.u4(C:gh X c P Ξ)(h:c.gl x=true):Gl X x:=C.Bk x (aS h)
theorem gh.u7(C:gh X c P Ξ){x:Str}(h:c.u7 x=true):Loc X.env.scope x/\(X.fn x=true\/X.env.scope.names.lookup x=some .local):=by
 unfold f6.u7 at h;rw[dR] at h;rcases h with h|h
 ·have:=C.loc x (aS h);exact⟨.inl this,.inr this⟩
 ·exact⟨.inr (C.ud x (aS h)),.inl (C.kA x (aS h))⟩
theorem gh.oO(C:gh X c P Ξ)(h:c.idx x=some i):X.N[i]?=some x:=by rw[C.N];exact Lj h
theorem gh.nT(C:gh X c P Ξ):X.N.Nodup:=by rw[C.N];exact C.nd
theorem Z7(h:asName e=some x):∃p,e=.Name x p:=by
 cases e<;>first|(cases h;exact⟨_,rfl⟩)|cases h
theorem CK(h:c.slot e=some i):∃x p,e=.Name x p/\c.u7 x=true/\c.idx x=some i:=by
 unfold f6.slot at h;obtain⟨x,hx,h2⟩:=ag.mp h;obtain⟨p,rfl⟩:=Z7 hx;split at h2
 ·exact⟨x,p,rfl,by assumption,h2⟩
 ·cases h2
theorem gh.slots(C:gh X c P Ξ):∀{es:List Expr} {is:List Nat},c.slots es=some is->eV X es is:=by
 intro es
 induction es with
 |nil=>intro is h;cases h;exact .nil
 |cons e r ih =>
  intro is h;unfold f6.slots at h;obtain⟨i,hi,h⟩:=ag.mp h;obtain⟨XC,hs,rfl⟩:=ae.mp h;obtain⟨x,p,rfl,hl,hx⟩:=CK hi;exact .cons (C.oO hx) (C.u7 hl).1 (C.u7 hl).2 (ih hs)
theorem orElse_some{α:Type}{a:Option α}{b:Unit->Option α}{m:α}(h:a.orElse b=some m):a=some m\/b ()=some m:=by
 cases a with
 |none=>exact .inr h
 |some x=>exact .inl h
theorem gh.BH(C:gh X c P Ξ){tg:Expr}(h:c.tg tg=some t):PG X tg (LG X.K t):=by
 unfold f6.tg at h;rcases orElse_some h with h|h
 ·obtain⟨i,hi,rfl⟩:=ae.mp h;obtain⟨x,p,rfl,hl,hx⟩:=CK hi;exact Kb C.nT (C.oO hx) (C.u7 hl).1 (C.u7 hl).2
 ·cases tg<;>first|(cases h;done)|skip
  obtain⟨is,hs,rfl⟩:=ae.mp (show(c.slots _).map MT.many=some t from h);exact Fx C.calm C.nT (C.slots hs)
theorem j8(h:fb e=true):starEach (e::es) env=(false,eval e env)::starEach es env:=by
 cases e<;>first|rfl|cases h
theorem X6(h:fb e=true):∀x,foldedSetIterable e env x=pure x:=by
 intro x;cases e<;>first|rfl|cases h
theorem Ew(h:fb e=true):yk e:=by
 intro o i;cases e<;>first|rfl|cases h
theorem LJ{i:Expr}(h:fb i=true):∀v,assign (.Subscript o i tp) env v=(do
      let ov <- holding [v] (eval o env)
      let iv <- holding [v,ov] (eval i env)
      standAt tp
      holding [v,ov,iv] (setItem ov iv v)
      release [v,ov,iv] []):=by
  intro v;cases i<;>first|rfl|cases h
theorem S5{t:Option Expr}(h:q8 e=true):swapsWith e t n env=pure false:=by
 cases e<;>first|rfl|cases h
theorem VY{p:Pos}(h:pX e=true):swappedStores [.Tuple es k p] e env=pure none:=by
 cases e<;>first|rfl|cases h
theorem Ta(h:zc e=true):∀whole,isTrue e env whole=(do let v <- whole;standAt e.pos;holding [v] (truthy v)):=by
 intro w;cases e<;>first|rfl|cases h
theorem U2{q:Str×List Expr}(h:uM e=some q):∃p pos,e=.Call (.Name q.1 p) q.2 [] pos:=by
 cases e<;>first|(cases h;done)|skip
 rename_i f as ip pos;cases f<;>first|(cases h;done)|skip
 cases ip<;>first|(cases h;done)|skip
 cases h;exact⟨_,_,rfl⟩
theorem RY(h:BQ e=true):∃es k p,e=.Tuple es k p:=by
 cases e<;>first|exact⟨_,_,_,rfl⟩|cases h
theorem FJ{kvs:List D}(h:c.vb b=some kvs):∃x p,b=.Name x p/\c.gl x=true/\Y0 x=true/\c.gd.lookup x=some kvs:=by
 unfold f6.vb at h;obtain⟨x,hx,h2⟩:=ag.mp h;obtain⟨p,rfl⟩:=Z7 hx;split at h2
 ·rename_i hc;rw[aY] at hc;exact⟨x,p,rfl,hc.1,hc.2,h2⟩
 ·cases h2
theorem J8(h:sS o=true):attributeBase o f env (eval o env)=eval o env:=by
 cases o<;>first|rfl|skip
 rename_i f as ip pos;cases f<;>first|rfl|cases h
theorem yt{env:Env}:∀(names:List (Str×NameKind)) (acc:List (Str×Addr)),(∀y∈names,y.2=.free->∃a,env.cells.lookup y.1=some a)->(∀x a,acc.lookup x=some a->env.cells.lookup x=some a) ->
  ∃ cl,(forIn names acc λ(y:Str × NameKind) (cs:List (Str × Addr))=>(match y with
   |(name,kind)=>if(kind==NameKind.free)=true then do
     let __do_lift <- cellOf env name
     pure (ForInStep.yield ((name,__do_lift)::cs))
    else pure (ForInStep.yield cs):Sem (ForInStep (List (Str × Addr)))))=pure cl/\(∀ x a,cl.lookup x=some a->env.cells.lookup x=some a)/\(∀ y ∈ names,y.2=.free->∃ a,cl.lookup y.1=some a)/\∀ x a,acc.lookup x=some a->∃ a',cl.lookup x=some a'
 |[],acc,_,h2=>⟨acc,rfl,h2,λy hy=>absurd hy (by simp),λx a h=>⟨a,h⟩⟩
 |(n,k)::r,acc,h1,h2=>by
  rw[List.forIn_cons];by_cases hk:k=.free
  ·subst hk;obtain⟨a,ha⟩:=h1 (n,.free) (by simp) rfl;have hc:cellOf env n=pure a:=by unfold cellOf;rw[ha]
   obtain ⟨cl,e,q1,q2,q3⟩:=yt r ((n,a) :: acc) (λy hy=>h1 y (by simp [hy])) (λx b hb=>by
    rw[cv] at hb;cases hx:x==n with
    |true=>rw[hx] at hb;cases hb;rw[eq_of_beq hx];exact ha
    | false=>rw [hx] at hb;exact h2 x b hb)
   refine⟨cl,?_,q1,λy hy hf=>?_,λx b hb=>?_⟩
   ·simp only[beq_self_eq_true,if_true,hc];exact e
   ·rcases ay.mp hy with z|z
    ·subst z;exact q3 n a (by simp[List.lookup_cons])
    ·exact q2 y z hf
   ·cases hx:x==n with
    |true=>exact q3 x a (by rw[cv,hx])
    |false=>exact q3 x b (by rw[cv,hx];exact hb)
  ·have hb:(k==NameKind.free)=false:=by simpa using hk
   obtain⟨cl,e,q1,q2,q3⟩:=yt r acc (λy hy=>h1 y (by simp[hy])) h2;refine⟨cl,?_,q1,λy hy hf=>?_,q3⟩
   ·simp only[hb,Bool.false_eq_true,if_false];exact e
   ·rcases ay.mp hy with z|z
    ·subst z;exact absurd hf hk
    ·exact q2 y z hf
theorem SO{P:Program}{w:World}:Passes (gg P w) X (λ_ _ _=>False):=λ_ _ _ _ _ _ _ h=>by
 obtain⟨_,_,_,_,_,_,_,z⟩:=h;exact z.elim
theorem O0{env:Env}:∀{names:List (Str×NameKind)} {x:Str},names.lookup x=some .globalImplicit ->
  (names.map λ(n,k)=>if(k==NameKind.free&&env.scope.kind==.function&&env.kindOf n==some .cell) then(n,NameKind.cell) else(n,k)).lookup x=some .globalImplicit
 |[],_,h=>by simp at h
 |(n,k)::r,x,h=>by
  have ih:=@O0 env r x;show List.lookup x ((if(k==NameKind.free&&env.scope.kind==.function&&env.kindOf n==some .cell)=true then(n,NameKind.cell) else(n,k))::_)=_;cases hx:x==n with
  |true =>
   simp only[List.lookup_cons,hx] at h;cases h;simp[List.lookup_cons,hx]
  |false =>
   simp only[List.lookup_cons,hx] at h;by_cases hc:(k==NameKind.free&&env.scope.kind==.function&&env.kindOf n==some .cell)=true
   ·rw[aJ hc];simp only[List.lookup_cons,hx];exact ih h
   ·rw[aB hc];simp only[List.lookup_cons,hx];exact ih h
theorem gh.comp(C:gh X c P Ξ){sc:Scope}(h:c.yD sc=true):∃cl,cZ X sc (frees sc++locals sc) (c.d0 sc) cl/\∀pins A s H fp,gh (d7 X pins sc (frees sc++locals sc) cl A s H fp) (c.inner sc) P (lS Ξ.1):=by
 unfold f6.yD at h;simp only[Bool.and_eq_true,decide_eq_true_eq,List.all_eq_true] at h;obtain⟨⟨⟨⟨h1,h2⟩,h3⟩,h4⟩,h5⟩:=h;have lq:∀x,sc.names.lookup x=some .free->x∈frees sc:=λx hx=>by
  unfold frees;exact aF.mpr ⟨(x,.free),bV.mpr ⟨aH hx,by simp⟩,rfl⟩
 have fr:∀x∈frees sc,(∃i,c.idx x=some i)/\sc.names.lookup x=some .free/\(c.nm.lookup x=some .cell\/c.nm.lookup x=some .free):=λx hx=>by
  have:=h5 x hx;rw[dN,dR] at this;simp only[decide_eq_true_eq] at this;exact⟨this.1.1,this.1.2,this.2⟩
 have oH:∀y∈sc.names,y.2=.free->∃a,X.env.cells.lookup y.1=some a:=λy hy hf=>by
  have hm:y.1∈frees sc:=aF.mpr ⟨y,bV.mpr ⟨hy,by simp[hf]⟩,rfl⟩;exact C.cells y.1 (fr y.1 hm).2.2
 obtain⟨cl,e,q1,q2,_⟩:=yt sc.names [] oH (λx a h=>by simp at h);have h2:∀y∈sc.names,y.2=.cell->sc.names.lookup y.1=some .cell:=λy hy hl=>by
  have:=h2 y hy;rw[dR] at this;simp only[Bool.not_eq_true',decide_eq_false_iff_not,decide_eq_true_eq] at this;exact this.resolve_left λz=>z hl
 refine⟨cl,⟨h1,h2,λy hy hl=>?_,?_,q1,λx hx=>q2 (x,.free) (aH hx) rfl,h4,λi j hZ=>?_,?_⟩,λpins A s H fp=>?_⟩
 ·have:=h3 y hy;rw[dR] at this;simp only[Bool.not_eq_true',decide_eq_false_iff_not,decide_eq_true_eq] at this;exact this.resolve_left λz=>z hl
 ·simp only[closureFor];rw[e]
  rfl
 ·unfold f6.d0 at hZ;rw[aA] at hZ;cases ex:(frees sc)[i]? with
  |none=>rw[ex] at hZ;cases hZ
  |some x =>
   rw[ex] at hZ;have hx:x∈frees sc:=bc ex;obtain⟨⟨k,hk⟩,hl,hc⟩:=fr x hx;have hj:k=j:=by
    have:=aG hZ;dsimp only at this;rw[hk] at this;exact this
   subst hj;refine⟨x,?_,C.oO hk,hl,?_⟩
   ·rw[aE (az.mp ex).1];exact ex
   ·rcases hc with z|z
    ·exact .inl (C.ud x z)
    ·exact C.xB x z
 ·unfold f6.d0;rw[av,bt];omega
 ·refine⟨rfl,h4,λx hx=>lookup_relabel_local hx,λx hx=>?_,λx hx=>E3 hx,λx hx=>O0 hx,λx hx=>?_,λx _=>?_,rfl,C.units,(λ_=>PassesOwn.never),C.mono,C.con,C.blt,C.fns,C.cls,C.lG,C.lO,C.ub,SO,(λz=>by cases z),(λz=>by cases z),C.exc,C.xF,C.rR,(λz=>by cases z)⟩
  ·exact L5 hx
  ·rcases hx with hx|hx
   ·exact Dc (.inl hx)
   ·exact Dc (.inr (q2 (x,.free) (aH hx) rfl))
  ·exact aQ ‹_›
theorem E8(h:Y0 x=true):(x==("__debug__":Str))=false/\(x==("__classdict__":Str))=false/\x≠"__name__":=by
 unfold Y0 at h;simp only[Bool.and_eq_true,decide_eq_true_eq,beq_iff_eq] at h;exact⟨h.1.1,h.1.2,h.2⟩
theorem WZ{t:String}(h:zw.lookup x=some t):bootBuiltins x=some (.type t):=by
 have hm:=aH h;simp only[zw,List.mem_cons,List.mem_nil_iff,or_false] at hm;rcases hm with z|z|z|z|z<;>(cases z;first|exact tI|exact PyProof.Rows.boot_bool|exact PyProof.Rows.boot_str|exact PyProof.Rows.boot_tuple|exact eB|decide +kernel|rfl)
theorem RZ(hc:X.calm=true)(h:zC.lookup x=some p):∃v,((∃id,v=.builtin id)\/∃T,v=.type T)/\bootBuiltins x=some v/\m5 X v (rN X.K p):=by
 have hm:=aH h;simp only[zC,List.mem_cons,List.mem_nil_iff,or_false] at hm;rcases hm with z|z|z|z|z|z|z
 ·cases z;exact⟨.builtin "len",.inl ⟨_,rfl⟩,PySem.boot_len,IT⟩
 ·cases z;exact⟨.type "list",.inr ⟨_,rfl⟩,by first|exact eB|decide +kernel,Lu hc⟩
 ·cases z;exact⟨.builtin "isinstance",.inl ⟨_,rfl⟩,by first|exact PyProof.Rows.boot_isinstance|decide +kernel,Lo⟩
 ·cases z;exact⟨.builtin "all",.inl ⟨_,rfl⟩,by first|exact PyProof.Rows.boot_all|decide +kernel,QZ hc⟩
 ·cases z;exact⟨.type "int",.inr ⟨_,rfl⟩,by first|exact tI|decide +kernel,IF⟩
 ·cases z;exact⟨.builtin "sorted",.inl ⟨_,rfl⟩,by first|exact fY|decide +kernel,WO hc⟩
 ·cases z;exact⟨.builtin "sum",.inl ⟨_,rfl⟩,by first|exact PyProof.Rows.boot_sum|decide +kernel,Km hc⟩
theorem Uc(h:V1.lookup x=some p):∃T id,PlainAttrs T/\Slot T x id/\typeOf (.builtin id)=pure (.type "method_descriptor")/\jV X id (rM X.K p) /\
  ∀{d:D} {v:V} {g:G} {ρ:List Addr} {H:Hp},Rl X.K ρ g H->d6 X.K ρ H d v->mX p d g->mj X.K T v H:=by
 have hm:=aH h;simp only[V1,List.mem_cons,List.mem_nil_iff,or_false] at hm;rcases hm with z|z
 ·cases z;exact⟨_,_,dX,PySem.F.slot_list_clear,PySem.F.type_list_clear,Vw,λR r h=>ty_list R r h⟩
 ·cases z;exact⟨_,_,dX,tG,tF,Me,λR r h=>ty_list R r h⟩
theorem SE(hu:X.A.units+100<cLine)(h:zK.lookup x=some p):∃T id,PlainAttrs T/\Slot T x id/\typeOf (.builtin id)=pure (.type "method_descriptor")/\jV X id (rM X.K p) /\
  ∀{d:D} {v:V} {g:G} {ρ:List Addr} {H:Hp},Rl X.K ρ g H->d6 X.K ρ H d v->mX p d g->mj X.K T v H:=by
 have hm:=aH h;simp only[zK,List.mem_cons,List.mem_nil_iff,or_false] at hm;rcases hm with z|z|z
 ·cases z;exact⟨_,_,dX,PySem.F.slot_list_append,PySem.F.type_list_append,Xd,λR r h=>ty_list R r h⟩
 ·cases z;exact⟨_,_,dX,tG,tF,Wr,λR r h=>ty_list R r h⟩
 ·cases z;exact⟨_,_,PySem.F.plainAttrs_set,PySem.F.slot_set_add,PySem.F.type_set_add,Mq,λR r h=>ty_set R r h⟩
theorem CM{pos:Pos}{env:Env}:∀{es:List Expr},(∀e∈es,fb e=true)->(backTo pos (starEach es env)).all (λx=>!x.1)=true
 |[],_=>rfl
 |e::es,h=>by
  rw[j8 (h e (by simp))];have ih:=CM (pos:=pos) (env:=env) (es:=es) λx hx=>h x (by simp[hx]);unfold backTo at ih ⊢;rw[aW,iW,ih]
  rfl
theorem P6{pos:Pos}{env:Env}:∀{es:List Expr},(∀e∈es,fb e=true)->(backTo pos (starEach es env)).any (·.1)=false
 |[],_=>rfl
 |e::es,h=>by
  rw[j8 (h e (by simp))];have ih:=P6 (pos:=pos) (env:=env) (es:=es) λx hx=>h x (by simp[hx]);unfold backTo at ih ⊢;rw[aW,iV,ih]
  rfl
theorem yH:∀{es:List Expr} {m:ME},F3 r c es=some m->∀e∈es,fb e=true:=by
 intro es
 induction es with
 |nil=>intro m _ e he;exact absurd he (by simp)
 |cons a es ih =>
  intro m h e he;unfold F3 at h;split at h
  ·obtain⟨m1,h1,h⟩:=ag.mp h;obtain⟨m2,h2,_⟩:=ae.mp h;rcases ay.mp he with z|z
   ·rw[z];assumption
   ·exact ih h2 e z
  ·cases h
theorem Tv(h:Em a=some x):∃j p,a=.Constant (.str x) j p:=by
 cases a with
 |Constant k j p=>cases k with
  |str y=>cases h;exact⟨_,_,rfl⟩
  |_=>cases h
 |_=>cases h
theorem Vq(h:Cy a=some e):∃p,a=.FormattedValue e (-1) none p:=by
 cases a with
 |FormattedValue v k f p=>cases f with
  |none =>
   have h2:(if k=-1 then some v else none)=some e:=h;split at h2
   ·rename_i hk;cases h2;rw[hk];exact⟨_,rfl⟩
   ·cases h2
  |some _=>cases h
 |_=>cases h
structure nD(P:eG)(r:CF):Prop where
 e:∀X c Ξ,gh X c P Ξ->∀e m,r.e c e=some m->PE X e (LE X.K Ξ (aP P m))
 t:∀X c Ξ,gh X c P Ξ->∀e m,r.t c e=some m->PT X e (LT X.K Ξ (da P m))
 s:∀X c Ξ,gh X c P Ξ->∀st m,r.s c st=some m->PS X st (LS X.K Ξ (wpS P m))
section
variable(S:nD P r)(C:gh X c P Ξ)
include S C
theorem V3(h:c1 r c p a=some m):∃ma,PE X a (LE X.K Ξ (aP P ma))/\m=.prim p (.cons ma .nil):=by
 obtain⟨ma,ha,rfl⟩:=ae.mp h;exact⟨ma,S.e X c Ξ C _ _ ha,rfl⟩
theorem V2(h:c2 r c p a b=some m):∃ma mb,PE X a (LE X.K Ξ (aP P ma))/\PE X b (LE X.K Ξ (aP P mb))/\m=.prim p (.cons ma (.cons mb .nil)):=by
 obtain⟨ma,ha,h⟩:=ag.mp h;obtain⟨mb,hb,rfl⟩:=ae.mp h;exact⟨ma,mb,S.e X c Ξ C _ _ ha,S.e X c Ξ C _ _ hb,rfl⟩
theorem pe:∀{es:List Expr} {m:ME},F3 r c es=some m->PA X es (LA X.K Ξ (eJ P m)):=by
 intro es
 induction es with
 |nil=>intro m h;cases h;exact F9 C.mono
 |cons a es ih =>
  intro m h;unfold F3 at h;split at h
  ·rename_i bz;obtain⟨m1,h1,h⟩:=ag.mp h;obtain⟨m2,h2,rfl⟩:=ae.mp h;exact w9 C.mono (S.e X c Ξ C _ _ h1) (ih h2) (j8 bz)
  ·cases h
theorem GJ:∀{es:List Expr} {m:ME},pR r c es=some m->∃ts,kC X Ξ P es m ts:=by
 intro es
 induction es with
 |nil=>intro m h;cases h;exact⟨_,.nil⟩
 |cons a es ih =>
  intro m h;unfold pR at h;rcases orElse_some h with h1|h1
  ·obtain⟨x,hx,h2⟩:=ag.mp h1;obtain⟨j,p,rfl⟩:=Tv hx;split at h2
   ·obtain⟨m2,h3,rfl⟩:=ae.mp h2;obtain⟨ts,F⟩:=ih h3;exact⟨_,.lit (by assumption) F⟩
   ·cases h2
  ·obtain⟨x,hx,h2⟩:=ag.mp h1;obtain⟨m1,h3,h4⟩:=ag.mp h2;obtain⟨m2,h5,rfl⟩:=ae.mp h4;obtain⟨p,rfl⟩:=Vq hx;obtain⟨ts,F⟩:=ih h5;exact⟨_,.val (S.e X c Ξ C _ _ h3) F⟩
theorem GL:∀{ks:List (Option Expr)} {vs:List Expr} {m:ME},sx r c ks vs=some m->∃gA,kE X Ξ P ks vs m gA:=by
 intro ks
 induction ks with
 |nil=>intro vs m h;cases vs<;>first|(cases h;exact⟨_,.nil⟩)|cases h
 |cons k ks ih =>
  intro vs m h;cases k<;>first|(cases h;done)|skip
  cases vs<;>first|(cases h;done)|skip
  unfold sx at h;obtain⟨m1,h1,h⟩:=ag.mp h;obtain⟨m2,h2,h⟩:=ag.mp h;obtain⟨m3,h3,rfl⟩:=ae.mp h;obtain⟨gA,D⟩:=ih h3;exact⟨_,.cons (S.e X c Ξ C _ _ h1) (S.e X c Ξ C _ _ h2) D⟩
theorem GN{op:BoolOp}:∀{vs:List Expr} {m:ME},uh r c op vs=some m->PE X (.BoolOp op vs pos) (LE X.K Ξ (aP P m)):=by
 intro vs
 induction vs with
 |nil=>intro m h;cases h
 |cons a vs ih =>
  intro m h;cases vs with
  |nil=>exact Jw (S.e X c Ξ C _ _ h)
  |cons b vs =>
   unfold uh at h;obtain⟨m1,h1,h⟩:=ag.mp h;obtain⟨m2,h2,rfl⟩:=ae.mp h;cases op
   ·exact JS C.mono (S.e X c Ξ C _ _ h1) (ih h2)
   ·exact QA C.mono (S.e X c Ξ C _ _ h1) (ih h2)
theorem GG{op:BoolOp}:∀{vs:List Expr} {m:ME},ui r c op vs=some m->PW X (.BoolOp op vs pos) (LT X.K Ξ (da P m)):=by
 intro vs
 induction vs with
 |nil=>intro m h;cases h
 |cons a vs ih =>
  intro m h;cases vs with
  |nil =>
   cases op
   ·exact Mn (S.t X c Ξ C _ _ h)
   ·exact JL (S.t X c Ξ C _ _ h)
  |cons b vs =>
   unfold ui at h;obtain⟨m1,h1,h⟩:=ag.mp h;obtain⟨m2,h2,rfl⟩:=ae.mp h;cases op
   ·exact Kn C.mono (S.t X c Ξ C _ _ h1) (ih h2)
   ·exact QD C.mono (S.t X c Ξ C _ _ h1) (ih h2)
theorem NT(h:En r c es=some m):jU X es (LT X.K Ξ (da P m)):=by
 rcases es with _|⟨e,_|⟨_,_⟩⟩
 ·cases h;exact ML C.mono
 ·exact Mm (S.t X c Ξ C _ _ h)
 ·cases h
theorem pM:∀{Ar:List Stmt} {m:MS},p6 r c Ar=some m->ic X Ar (LS X.K Ξ (wpS P m)):=by
 intro es
 induction es with
 |nil=>intro m h;cases h;exact EH C.mono
 |cons a es ih =>
  intro m h;unfold p6 at h;obtain⟨m1,h1,h⟩:=ag.mp h;obtain⟨m2,h2,rfl⟩:=ae.mp h;exact Fy C.mono (S.s X c Ξ C _ _ h1) (ih h2)
end
theorem DZ{t:Expr}(h:q8 e=true):swapsWithSole [t] e n env=pure false:=by
 show swapsWith e (some t) n env=pure false;exact S5 h
theorem Ui{y:Str}{py pt mV:Pos}{kt k2:Nat}(hk:env.scope.kind=.function)(hx:env.kindOf x=some .local)(hy:env.kindOf y=some .local)(eA:x≠y)(hl:py.line=px.line)(ha:fb a=true)(hb:fb b=true)(h1:[a,b].all (foldedForSure 8)=false)(h2:[a,b].all (constantsAlone 8)=false):swappedStores [.Tuple [.Name x px,.Name y py] kt pt] (.Tuple [a,b] k2 mV) env=pure (some [x,y]):=by
 have HA:env.blockKind=.function:=by simp[Env.blockKind,hk,ScopeKind.isAnnotationScope]
 have hd:[x,y].eraseDups.length=2:=by
  have:(y==x)=false:=by simpa using ba eA
  simp[List.eraseDups_cons,this]
 have vX:(env.kindOf x==some NameKind.local&&px.line==px.line)=true:=by simp[hx]
 have vW:(env.kindOf y==some NameKind.local&&py.line==px.line)=true:=by simp[hy,hl]
 have hp:Expr.pos (.Name x px)=px:=rfl;unfold swappedStores;simp only[List.length_cons,List.length_nil,HA,List.head?_cons,Option.map_some,Option.getD_some,hp,List.filterMap_cons,List.filterMap_nil,vX,vW,if_true,hd,h1,h2];rw[aB (by decide),aB ?_]
 ·rfl
 ·simp only[List.any_cons,List.any_nil,Bool.or_false,Bool.or_eq_true,not_or];constructor
  ·cases a<;>first|(intro h;cases h;done)|cases ha
  ·cases b<;>first|(intro h;cases h;done)|cases hb
theorem Kp(hP:i0 P){j:Nat}{y:Str}{py pt mV:Pos}{kt k2:Nat}{fB:ME}(hc:X.calm=true)(hN:X.N.Nodup)(hi:X.N[i]?=some x)(hj:X.N[j]?=some y)(eA:x≠y)(hl:py.line=px.line)(hx:X.env.scope.names.lookup x=some .local)(hy:X.env.scope.names.lookup y=some .local)(oa:fb a=true)(ob:fb b=true)(h1:[a,b].all (foldedForSure 8)=false)(h2:[a,b].all (constantsAlone 8)=false)(ha:PA X [a,b] (LA X.K Ξ (eJ P fB))):PS X (.Assign [.Tuple [.Name x px,.Name y py] kt pt] (.Tuple [a,b] k2 mV) pos) (LS X.K Ξ (wpS P (.kJ (.many [i,j]) (.prim .tup fB)))):=by
 intro pins s bC H D I h;have hZ:i≠j:=by
  rintro rfl;rw[hi] at hj;cases hj;exact eA rfl
 refine JG hc hN hi hj hZ hx hy ha (Ui I.ok.kind hx hy eA hl oa ob h1 h2) rfl pins s bC H D I ?_;obtain⟨Z,g,ρ,sr,R,h⟩:=h;refine iA hP sr R (.refl _ _) (show eJ P fB Z g (λxs g1=>cG .tup xs g1 _) _ from h) λds g1 bB H1 vs e1 R1 r1 h=>?_;obtain⟨d',g',⟨_,rfl,rfl⟩,l,bD,ex,hs,h⟩:=h;cases ex;have hl:=X3 hs;have e2:∃d1 d2,ds=[d1,d2]:=by
  rcases ds with _|⟨d1,_|⟨d2,_|⟨d3,r⟩⟩⟩<;>first|exact⟨_,_,rfl⟩|(simp at hl;done)|(simp at hl;omega)
 obtain⟨d1,d2,rfl⟩:=e2;obtain⟨v,w,rfl,q1,q2⟩:=r1.two;cases hs;exact⟨_,_,rfl,h bB H1 _ e1 R1 (((sr.ext e1).set i q1).set j q2)⟩
theorem gh.W7(C:gh X c P Ξ)(et:X.stack=X.env::X.outer)(hf:X.env.frame=some X.env.locals)(pins:List (Addr×Obj))(D:L2.Ends)(hs:List ExceptHandler) :
  gh (S0 X pins (pY X pins D hs)) { c with iK:=false,ik:=false } P (vi X Ξ.1 D hs) :=
 ⟨C.N,C.nd,C.loc,C.ud,C.xB,C.Bk,C.cells,C.kA,C.calm,C.units,(λ_=>PassesOwn.looking),C.mono,C.con,C.blt,C.fns,C.cls,C.lG,C.lO,C.ub,Wd et hf λC H' ⟨C',e,z⟩=>(by cases e;exact z),(λz=>by cases z),(λz=>by cases z),C.exc,C.xF,C.rR,C.code⟩
theorem Du{m:Str}{apos:Pos}(hb:sS o=true)(hl:(apos.endLine==pos.line)=true)(hf:methodCallForm args.length (backTo pos (starEach args env)) (backToKw pos (keywordEach [] env))=true) :
  eval (.Call (.Attribute o m apos) args [] pos) env=(do
   let ov <- eval o env
   standAt apos.atName
   let (f,first) <- holding [ov] (getMethod ov m (do return (<- importBound o env).getD true))
   callWith pos f first (backTo pos (starEach args env)) (backToKw pos (keywordEach [] env))):=by
 have h1:eval (.Call (.Attribute o m apos) args [] pos) env=(do
   let ov <- attributeBase o m env (eval o env)
   standAt apos.atName
   methodCall o m apos pos env ov (args.length + 0) (backTo pos (starEach args env)) (backToKw pos (keywordEach [] env))):=rfl
 rw[h1,J8 hb];have h2:∀ ov,methodCall o m apos pos env ov (args.length + 0) (backTo pos (starEach args env)) (backToKw pos (keywordEach [] env))=(do
   let (f,first) <- holding [ov] (getMethod ov m (do return (<- importBound o env).getD true))
   callWith pos f first (backTo pos (starEach args env)) (backToKw pos (keywordEach [] env))):=λov=>by
  unfold methodCall calleeOf methodCallPos;rw[Nat.add_zero,hf,hl];simp only[if_true,Bool.not_true,Bool.false_or,pure_bind]
 simp only[h2]
section
variable(S:nD P r)(C:gh X c P Ξ){d:Expr}
include C
theorem Jb(h:zy c x=some m):PE X (.Name x pos) (LE X.K Ξ (aP P m)):=by
 unfold zy at h;split at h
 ·rename_i gj;obtain⟨d1,d2,d3⟩:=E8 gj;split at h
  ·rename_i hv;obtain⟨i,hi,rfl⟩:=ae.mp h;exact J' (C.oO hi) (C.QS hv) d1 d2
  ·split at h
   ·rename_i hg;rcases orElse_some h with h|h
    ·obtain⟨d,hd,rfl⟩:=ae.mp h;obtain⟨v,u,hm,r,rr⟩:=C.con x d hd;exact P8 (uU (C.u4 hg) hm r d1) rr
    ·split at h
     ·rename_i hb;obtain⟨t,ht,rfl⟩:=ae.mp h;exact P8 (v:=.ty t) (LW (C.u4 hg) (C.blt x hb) (WZ ht) rfl d3 d1) λ_ _=>.ty t
     ·cases h
   ·cases h
 ·cases h
omit C in
theorem vM{k:Const}{j:Nat}{d:D}(h:Z4 k=some d):PE X (.Constant k j pos) (LE X.K Ξ (aP P (.lit d))):=by
 cases k<;>first|(cases h;done)|skip
 ·cases h;exact P8 Ju λ_ _=>.aX
 ·cases h;exact P8 Qi λ_ _=>.bl _
 ·cases h;exact P8 Js λ_ _=>.int _
 ·cases h;exact P8 Ez λ_ _=>.str _
include S
theorem NU{op:UnaryOp}(h:vy r c op a=some m):PE X (.UnaryOp op a pos) (LE X.K Ξ (aP P m)):=by
 unfold vy at h;split at h
 ·rename_i ho;subst ho;obtain⟨ma,ha,rfl⟩:=ae.mp h;exact JY C.mono (S.e X c Ξ C _ _ ha)
 ·obtain⟨ma,ha,rfl⟩:=V3 S C h;exact QB C.mono ha
theorem Cg{ops:List CmpOp}{bs:List Expr}(h:sm r c a ops bs=some m):PE X (.Compare a ops bs pos) (LE X.K Ξ (aP P m))/\PT X (.Compare a ops bs pos) (LT X.K Ξ (da P (.dA m))):=by
 unfold sm at h;split at h
 ·rename_i op b;split at h
  ·cases h
  ·rename_i hm;have hm:behindInMarks op b=false:=by simpa using hm
   rcases orElse_some h with h|h
   ·obtain⟨neg,hn,h⟩:=ag.mp h;obtain⟨kvs,hk,h⟩:=ag.mp h;obtain⟨ma,ha,rfl⟩:=ae.mp h;obtain⟨x,p,rfl,hg,hd,hk⟩:=FJ hk;have ho:op=if neg then .NotIn else .In:=by cases op<;>cases hn<;>rfl
    subst ho;exact⟨JW C.mono (C.u4 hg) (E8 hd).1 (C.rR x kvs hk) (S.e X c Ξ C _ _ ha) hm,Ki C.mono (C.u4 hg) (E8 hd).1 (C.rR x kvs hk) (S.e X c Ξ C _ _ ha) hm⟩
   ·obtain⟨ma,mb,ha,hb,rfl⟩:=V2 S C h;exact⟨xZ C.mono (Fj (U9 C.units op) ha hb hm),Kk C.mono (Fo (U9 C.units op) ha hb hm)⟩
 ·split at h
  ·cases h
  ·rename_i hm;obtain⟨ma,ha,h⟩:=ag.mp h;obtain⟨mb,hb,h⟩:=ag.mp h;obtain⟨md,hd,rfl⟩:=ae.mp h;exact⟨WA C.mono C.units (S.e X c Ξ C _ _ ha) (S.e X c Ξ C _ _ hb) (S.e X c Ξ C _ _ hd) (by simpa using hm),WQ C.mono C.units (S.e X c Ξ C _ _ ha) (S.e X c Ξ C _ _ hb) (S.e X c Ξ C _ _ hd) (by simpa using hm)⟩
 ·cases h
theorem NR{lo hi st:Option Expr}{p2:Pos}(h:Al r c a lo hi st=some m):PE X (.Subscript a (.Slice lo hi st p2) pos) (LE X.K Ξ (aP P m)):=by
 cases lo<;>cases hi<;>cases st<;>first|(cases h;done)|skip
 ·obtain⟨ma,ha,rfl⟩:=V3 S C h;exact WJ C.mono ha
 ·obtain⟨ma,mb,ha,hb,rfl⟩:=V2 S C h;exact WK C.mono ha hb
 ·obtain⟨ma,mb,ha,hb,rfl⟩:=V2 S C h;exact WL C.mono ha hb
theorem PZ(h:zV r c a b=some m):PE X (.Subscript a b pos) (LE X.K Ξ (aP P m)):=by
 unfold zV at h;rcases orElse_some h with h|h
 ·obtain⟨q,hq,h⟩:=ag.mp h;have eb:∃p,b=.Slice q.1 q.2.1 q.2.2 p:=by cases b<;>first|(cases hq;exact⟨_,rfl⟩)|cases hq
  obtain⟨p,rfl⟩:=eb;exact NR S C h
 ·split at h
  ·rename_i hb;rcases orElse_some h with h|h
   ·obtain⟨kvs,hk,h⟩:=ag.mp h;obtain⟨mb,jt,rfl⟩:=ae.mp h;obtain⟨x,p,rfl,hg,hd,hk⟩:=FJ hk;exact Mv C.mono (C.u4 hg) (E8 hd).1 (C.rR x kvs hk) (S.e X c Ξ C _ _ jt) (Ew hb)
   ·obtain⟨ma,mb,ha,jt,rfl⟩:=V2 S C h;exact xZ C.mono (Cj (Pz C.units) ha jt (Ew hb))
  ·cases h
theorem NS(hg:c.gl x=true)(h:vz r c x e=some m):PE X (.Call (.Name x px) [e] [] pos) (LE X.K Ξ (aP P m)):=by
 unfold vz at h;obtain⟨q,hq,h'⟩:=ag.mp h;clear h;have h:=h';clear h';obtain⟨p,pos',rfl⟩:=U2 hq;obtain⟨y,as⟩:=q;dsimp only at h ⊢;split at h
 ·rename_i hc;simp only[Bool.and_eq_true,decide_eq_true_eq] at hc;obtain⟨⟨⟨⟨rfl,rfl⟩,hl⟩,hr⟩,pw⟩:=hc;rcases as with _|⟨a,_|⟨b,_|⟨_,_⟩⟩⟩
  ·cases h
  ·dsimp only at h;split at h
   ·rename_i ho;obtain⟨ma,ha,rfl⟩:=V3 S C h;exact WC C.mono C.calm ha (C.u4 hg) (C.blt _ hl) (C.u4 pw) (C.blt _ hr) (j8 ho)
   ·cases h
  ·dsimp only at h;split at h
   ·rename_i ho;rw[aY] at ho;obtain⟨ma,mb,ha,hb,rfl⟩:=V2 S C h;exact WD C.mono C.calm ha hb (C.u4 hg) (C.blt _ hl) (C.u4 pw) (C.blt _ hr) (by rw[j8 ho.1,j8 ho.2];rfl) (j8 ho.2)
   ·cases h
  ·cases h
 ·split at h
  ·rename_i hc;simp only[Bool.and_eq_true,decide_eq_true_eq] at hc;obtain⟨⟨⟨⟨rfl,rfl⟩,hl⟩,hr⟩,pw⟩:=hc;rcases as with _|⟨a,_|⟨_,_⟩⟩
   ·cases h
   ·dsimp only at h;split at h
    ·rename_i ho;obtain⟨ma,ha,rfl⟩:=V3 S C h;exact MA C.mono C.calm ha (C.u4 hg) (C.blt _ hl) (C.u4 pw) (C.blt _ hr) (j8 ho)
    ·cases h
   ·cases h
  ·split at h
   ·rename_i hc;simp only[Bool.and_eq_true,decide_eq_true_eq] at hc;obtain⟨⟨⟨⟨rfl,rfl⟩,hl⟩,hr⟩,pw⟩:=hc;rcases as with _|⟨a,_|⟨_,_⟩⟩
    ·cases h
    ·dsimp only at h;split at h
     ·rename_i ho;obtain⟨ma,ha,rfl⟩:=V3 S C h;exact Mw C.mono C.calm ha (C.u4 hg) (C.blt _ hl) (C.u4 pw) (C.blt _ hr) (j8 ho)
     ·cases h
    ·cases h
   ·cases h
theorem LD(h:EN r c x args=some m):PE X (.Call (.Name x px) args [] pos) (LE X.K Ξ (aP P m)):=by
 cases args with
 |nil =>
  have h2:yg c x=some m:=h;unfold yg at h2;split at h2
  ·rename_i gj;rw[aY] at gj;rcases orElse_some h2 with h2|h2
   ·obtain⟨f,hf,rfl⟩:=ae.mp h2;obtain⟨k,fa,fd,ps,F,hr,hm,hk⟩:=C.fns x f hf;exact Wz C.mono C.pass F hr (C.u4 gj.2) hm hk (E8 gj.1).1
   obtain⟨f,hf,rfl⟩:=ae.mp h2;obtain⟨k,C',fa,fd,ps,F,hr,hm,hC,iB,M⟩:=C.cls x f hf;exact WE C.mono C.pass F M hC iB hr (C.u4 gj.2) hm (E8 gj.1).1
  ·cases h2
 |cons e es =>
  have h0:yh r c x e es=some m:=h;clear h;have h:=h0;clear h0;unfold yh at h;split at h
  ·rename_i gj;rw[aY] at gj;obtain⟨d1,d2,d3⟩:=E8 gj.1;rcases orElse_some h with h|h
   ·cases es with
    |nil=>exact NS S C gj.2 h
    |cons _ _=>cases h
   ·obtain⟨ms,mZ,h⟩:=ag.mp h;have ok:=yH mZ;have pa:=pe S C mZ;have et:=j8 (env:=X.env) (es:=es) (ok e (by simp));have fK:=P6 (pos:=pos) (env:=X.env) (es:=es) λz hz=>ok z (by simp[hz]);rcases orElse_some h with h|h
    ·obtain⟨f,hf,rfl⟩:=ae.mp h;obtain⟨k,fa,fd,ps,F,hr,hm,hk⟩:=C.fns x f hf;exact Mr C.mono C.pass F hr (C.u4 gj.2) hm hk pa d1 et fK
    ·rcases orElse_some h with h|h
     ·obtain⟨f,hf,rfl⟩:=ae.mp h;obtain⟨k,C',fa,fd,ps,F,hr,hm,hC,iB,M⟩:=C.cls x f hf;exact Mx C.mono C.pass F M hC iB hr (C.u4 gj.2) hm pa d1 et fK
     ·split at h
      ·rename_i hb;obtain⟨p,hp,rfl⟩:=ae.mp h;obtain⟨v,hv,wG,hc⟩:=RZ (X:=X) C.calm hp;exact JT C.mono hv hc (C.u4 gj.2) (C.blt x hb) wG pa d3 d1 et fK
      ·cases h
  ·cases h
omit S in
theorem FN{m:Str}:yj X P Ξ.1 m (c.meths m):=λy f C' h hC=>by
 have hm:=aH h;unfold f6.meths at hm;obtain⟨⟨m',y',f'⟩,h1,h2⟩:=aF.mp hm;obtain⟨h3,h4⟩:=bV.mp h1;cases h2;have:m'=m:=by simpa using h4
 subst this;exact C.lG m' y f C' h3 hC
theorem LC{mt:Str}{apos:Pos}(h:yi r c o mt apos pos args=some m):PE X (.Call (.Attribute o mt apos) args [] pos) (LE X.K Ξ (aP P m)):=by
 unfold yi at h;split at h
 ·rename_i hc;simp only[Bool.and_eq_true,decide_eq_true_eq] at hc;obtain⟨⟨hb,hl⟩,hn⟩:=hc;obtain⟨mo,ho,h⟩:=ag.mp h;obtain⟨ms,mZ,h⟩:=ag.mp h;have ok:=yH mZ;have pa:=pe S C mZ;have po:=S.e X c Ξ C _ _ ho;have hf:methodCallForm args.length (backTo pos (starEach args X.env)) (backToKw pos (keywordEach [] X.env))=true:=by
   unfold methodCallForm;rw[CM ok];have:args.length+0<30:=by omega
   show(true&&true&&decide (args.length+0<30))=true;rw[aQ this]
   rfl
  by_cases qY:mt="index"
  ·subst qY;rw[aJ rfl] at h;cases args with
   |nil=>cases h
   |cons e es =>
    cases h;exact WB C.mono po pa (J8 hb) hf hl (j8 (env:=X.env) (es:=es) (ok e (by simp))) (P6 (pos:=pos) (env:=X.env) (es:=es) λz hz=>ok z (by simp[hz]))
  rw[aB qY] at h;cases args with
  |nil =>
   cases mZ;by_cases h0:(V1.lookup mt).isSome=true
   ·rw[aJ (by rw[h0];rfl)] at h;obtain⟨p,hp,rfl⟩:=ae.mp h;obtain⟨T,id,vK,sl,ty,vN,hk⟩:=Uc (X:=X) hp;exact WG C.mono vK sl ty vN hk po (J8 hb) hl
   rw[aB (by rw[aY];exact λz=>h0 z.2)] at h;split at h
   ·cases h
   ·cases h;exact Tg C.mono C.pass (FN C) po (Du hb hl hf)
  |cons e es =>
   have et:=j8 (env:=X.env) (es:=es) (ok e (by simp));have fK:=P6 (pos:=pos) (env:=X.env) (es:=es) λz hz=>ok z (by simp[hz]);rw[aB (by simp)] at h;split at h
   ·rename_i p hp;cases h;obtain⟨T,id,vK,sl,ty,vN,hk⟩:=SE (X:=X) C.units hp;exact My C.mono vK sl ty vN hk po pa (J8 hb) hf hl et fK
   ·cases h;exact WH C.mono C.pass (FN C) po pa et fK (Du hb hl hf)
 ·cases h
theorem AG{tg:Expr}(h:sA r c tg e=some m):PI X tg e (LI X.K Ξ (fZ P m)):=by
 unfold sA at h;rcases orElse_some h with h|h
 ·obtain⟨q,hq,h'⟩:=ag.mp h;rename_i h0;clear h h0;have h:=h';clear h';obtain⟨p,pos',rfl⟩:=U2 hq;obtain⟨y,as⟩:=q;dsimp only at h ⊢;split at h
  ·rename_i hy;subst hy;rcases as with _|⟨a,_|⟨_,_⟩⟩
   ·cases h
   ·dsimp only at h;split at h
    ·rename_i hc;simp only[Bool.and_eq_true] at hc;obtain⟨⟨⟨hg,hb⟩,ho⟩,ht⟩:=hc;obtain⟨ma,ha,rfl⟩:=ae.mp h;obtain⟨es,k,tp,rfl⟩:=RY ht;exact MD C.mono (S.e X c Ξ C _ _ ha) (C.u4 hg) (C.blt _ hb) (j8 ho)
    ·cases h
   ·cases h
  ·split at h
   ·rename_i hy;subst hy;rcases as with _|⟨a,_|⟨_,_⟩⟩
    ·cases h
    ·dsimp only at h;split at h
     ·rename_i hc;simp only[Bool.and_eq_true] at hc;obtain⟨⟨hg,hb⟩,ho⟩:=hc;obtain⟨ma,ha,rfl⟩:=ae.mp h;exact Kc C.mono (S.e X c Ξ C _ _ ha) (C.u4 hg) (C.blt _ hb) (j8 ho)
     ·cases h
    ·cases h
   split at h
   ·rename_i hy;subst hy;rcases as with _|⟨a,_|⟨b,_|⟨_,_⟩⟩⟩
    ·cases h
    ·dsimp only at h;split at h
     ·rename_i hc;simp only[Bool.and_eq_true] at hc;obtain⟨⟨hg,hb⟩,ho⟩:=hc;obtain⟨ma,ha,rfl⟩:=ae.mp h;exact MF C.mono (S.e X c Ξ C _ _ ha) (C.u4 hg) (C.blt _ hb) (j8 ho)
     ·cases h
    ·dsimp only at h;split at h
     ·rename_i hc;simp only[Bool.and_eq_true] at hc;obtain⟨⟨⟨hg,hb⟩,ho⟩,jE⟩:=hc;obtain⟨ma,ha,h⟩:=ag.mp h;obtain⟨mb,jt,rfl⟩:=ae.mp h;exact MG C.mono (S.e X c Ξ C _ _ ha) (S.e X c Ξ C _ _ jt) (C.u4 hg) (C.blt _ hb) (by rw[j8 ho,j8 jE];rfl) (j8 jE)
     ·cases h
    ·cases h
   ·cases h
 ·split at h
  ·obtain⟨ma,ha,rfl⟩:=ae.mp h;exact Kd C.mono (S.e X c Ξ C _ _ ha)
  ·cases h
theorem yB{elt:Expr}{gens:List Comprehension}{sc:Scope}(h:V6 r c elt gens sc=some m):∃tg it ifs t mi mc me cl,gens=[⟨tg,it,ifs,0⟩]/\m=.comp (c.d0 sc) (frees sc++locals sc).length t mi mc me/\fb it=true /\
  cZ X sc (frees sc++locals sc) (c.d0 sc) cl/\PI X tg it (LI X.K Ξ (fZ P mi))/\(∀pins A s H fp,PG (d7 X pins sc (frees sc++locals sc) cl A s H fp) tg (LG X.K t)) /\
   (∀pins A s H fp,jU (d7 X pins sc (frees sc++locals sc) cl A s H fp) ifs (LT X.K (lS Ξ.1) (da P mc)))/\(∀pins A s H fp,PE (d7 X pins sc (frees sc++locals sc) cl A s H fp) elt (LE X.K (lS Ξ.1) (aP P me))):=by
 unfold V6 at h;rcases gens with _|⟨⟨tg,it,ifs,AK⟩,_|⟨_,_⟩⟩
 ·cases h
 ·dsimp only at h;split at h
  ·rename_i hs;simp only[Bool.and_eq_true,decide_eq_true_eq] at hs;obtain⟨⟨hs,rfl⟩,hit⟩:=hs;obtain⟨t,h1,h⟩:=ag.mp h;obtain⟨mi,h2,h⟩:=ag.mp h;obtain⟨mc,h3,h⟩:=ag.mp h;obtain⟨me,h4,rfl⟩:=ae.mp h;obtain⟨cl,Sc,I⟩:=C.comp hs;exact⟨tg,it,ifs,t,mi,mc,me,cl,rfl,rfl,hit,Sc,AG S C h2,λpins A s H fp=>(I pins A s H fp).BH h1,λpins A s H fp=>NT S (I pins A s H fp) h3,λpins A s H fp=>S.e _ _ _ (I pins A s H fp) elt me h4⟩
  ·cases h
 ·cases h
omit S in
theorem NQ{f:Expr}{ip:List Keyword}(h:tK c f args ip=some m):PE X (.Call f args ip pos) (LE X.K Ξ (aP P m)):=by
 unfold tK at h;cases h
theorem GK:∀e m,Co r c e=some m->PE X e (LE X.K Ξ (aP P m)):=by
 intro e m h;cases e with
 |Name x p=>exact Jb C h
 |Constant k j p =>
  obtain⟨d,hd,rfl⟩:=ae.mp (show(Z4 k).map ME.lit=some m from h);exact vM hd
 |BinOp a op b p =>
  obtain⟨ma,mb,ha,hb,rfl⟩:=V2 S C h;exact xZ C.mono (Ql (Jf op) ha hb)
 |UnaryOp op a p=>exact NU S C h
 |Compare a ops bs p=>exact(Cg S C h).1
 |BoolOp op vs p=>exact GN S C h
 |IfExp t a b p =>
  obtain⟨mt,ht,h⟩:=ag.mp h;obtain⟨ma,ha,h⟩:=ag.mp h;obtain⟨mb,hb,rfl⟩:=ae.mp h;exact JX C.mono (S.t X c Ξ C _ _ ht) (S.e X c Ξ C _ _ ha) (S.e X c Ξ C _ _ hb)
 |Tuple es k p =>
  obtain⟨ma,ha,rfl⟩:=ae.mp h;exact JZ C.mono (pe S C ha)
 |List es p =>
  obtain⟨ma,ha,rfl⟩:=ae.mp h;exact EE C.mono (pe S C ha)
 |Subscript a b p=>exact PZ S C h
 |Dict ks vs p =>
  have h2:(if ks.isEmpty&&vs.isEmpty then some (ME.prim .N8 .nil) else if decide (ks.length<=15) then(sx r c ks vs).map .lR else none)=some m:=h;split at h2
  ·rename_i hc;cases ks<;>cases vs<;>first|(cases hc;done)|skip
   cases h2;exact Mt
  ·rename_i hc;split at h2
   ·rename_i hl;obtain⟨ms,hm,rfl⟩:=ae.mp h2;obtain⟨gA,D⟩:=GL S C hm;refine JU C.mono D (λz=>hc ?_) (aS hl);have:=D.len.2;subst z;cases vs<;>first|rfl|cases this
   ·cases h2
 |JoinedStr vs p =>
  have h2:(if decide (2<=vs.length)&&decide (vs.length<=40) then(pR r c vs).map (ME.prim .lC) else none)=some m:=h;split at h2
  ·rename_i hc;simp only[Bool.and_eq_true,decide_eq_true_eq] at hc;obtain⟨ms,hm,rfl⟩:=ae.mp h2;obtain⟨ts,F⟩:=GJ S C hm;rcases vs with _|⟨v1,_|⟨v2,vs⟩⟩
   ·simp at hc
   ·simp at hc
   ·exact Mu C.mono F hc.2
  ·cases h2
 |Attribute o f p =>
  have h2:(if sS o then c1 r c (.fld f) o else none)=some m:=h;split at h2
  ·rename_i hb;obtain⟨ma,ha,rfl⟩:=V3 S C h2;exact JV C.mono ha (J8 hb)
  ·cases h2
 |Call f args ip pos =>
  have h1:((vA r c f args ip).orElse λ_=>(tK c f args ip).orElse λ_=>zx r c f args ip pos)=some m:=h;rcases orElse_some h1 with h2|h2
  ·unfold vA at h2;rcases args with _|⟨a,_|⟨_,_⟩⟩
   ·cases h2
   ·dsimp only at h2;split at h2
    ·rename_i hk;simp only[Bool.and_eq_true,decide_eq_true_eq] at hk;obtain⟨⟨⟨hk,hf⟩,lp⟩,hb⟩:=hk;cases ip<;>first|(cases hk;done)|skip
     obtain⟨q,hq,h3⟩:=ag.mp h2;obtain⟨m1,h4,h5⟩:=ag.mp h3;cases f<;>first|(cases hf;done)|skip
     cases a<;>first|(cases hq;done)|skip
     cases hf;cases hq;obtain⟨tg,it,ifs,t,mi,mc,me,cl,eg,rfl,hit,Sc,q1,q2,q3,q4⟩:=yB S C h4;dsimp only at eg;subst eg;cases h5;exact WI C.mono Sc C.calm q1 q2 q3 q4 (X6 hit) (C.u4 lp) (C.blt _ hb)
    ·cases h2
   ·cases h2
  clear h h1;rcases orElse_some h2 with h3|h3
  ·exact NQ C h3
  clear h2;unfold zx at h3;split at h3
  ·rename_i hk;cases ip<;>first|(cases hk;done)|skip
   cases f with
   |Name x p=>exact LD S C h3
   |Attribute o a p=>exact LC S C h3
   |_=>cases h3
  ·cases h3
 |Set es k p =>
  have h2:zU c es k=some m:=h;unfold zU at h2;split at h2
  ·rename_i hc;rw[aY] at hc;obtain rfl:=aS hc.2;split at h2
   ·cases h2;exact Mz C.mono (C.code hc.1)
   ·cases h2
  ·cases h2
 |ListComp elt gens sc p =>
  obtain⟨tg,it,ifs,t,mi,mc,me,cl,rfl,rfl,hit,Sc,q1,q2,q3,q4⟩:=yB S C h;exact(Fl Sc C.calm q1 q2 q3 q4 (X6 hit)).imp λZ H Q h=>FG C.mono Z H Q h
 |_=>cases h
theorem GH:∀e m,stepT r c e=some m->PT X e (LT X.K Ξ (da P m)):=by
 intro e m h;have plain:∀{e:Expr} {m:ME},(if zc e then(r.e c e).map ME.dA else none)=some m->PT X e (LT X.K Ξ (da P m)):=λ{e m} h=>by
  split at h
  ·rename_i hp;obtain⟨ma,ha,rfl⟩:=ae.mp h;exact Kl C.mono (S.e X c Ξ C _ _ ha) (Ta hp)
  ·cases h
 cases e with
 |UnaryOp op a p =>
  have h2:(if op=.Not then(r.t c a).map ME.cJ else none)=some m:=h;split at h2
  ·rename_i ho;subst ho;obtain⟨ma,ha,rfl⟩:=ae.mp h2;exact Kj C.mono (S.t X c Ξ C _ _ ha)
  ·cases h2
 |BoolOp op vs p=>exact(GG S C h).pt
 |Compare a ops bs p =>
  obtain⟨ma,ha,rfl⟩:=ae.mp (show(sm r c a ops bs).map ME.dA=some m from h);exact(Cg S C ha).2
 |_=>exact plain h
end
section
theorem FE(h:BV e=some m):PE X e (LE X.K Ξ (aP P m))/\fb e=true:=by
 cases e<;>first|(cases h;done)|skip
 obtain⟨d,hd,rfl⟩:=ae.mp (show(Z4 _).map ME.lit=some m from h);exact⟨vM hd,rfl⟩
theorem Sf(hP:i0 P):∀{es:List Expr} {m:ME},uD es=some m->PA X es (LA X.K Ξ (eJ P m)):=by
 intro es
 induction es with
 |nil=>intro m h;cases h;exact F9 hP
 |cons e es ih =>
  intro m h;unfold uD at h;obtain⟨m1,h1,h⟩:=ag.mp h;obtain⟨m2,h2,rfl⟩:=ae.mp h;exact w9 hP (FE h1).1 (ih h2) (j8 (FE (X:=X) (Ξ:=Ξ) (P:=P) h1).2)
theorem VA(hP:i0 P)(h:BU e=some m):PE X e (LE X.K Ξ (aP P m)):=by
 cases e<;>first|(cases h;done)|skip
 ·obtain⟨d,hd,rfl⟩:=ae.mp (show(Z4 _).map ME.lit=some m from h);exact vM hd
 ·obtain⟨ms,hm,rfl⟩:=ae.mp h;exact EE hP (Sf hP hm)
theorem Tu{h:ExceptHandler}{q:Str×Expr}(hq:zA h=some q):∃p p1 p2,h=.ExceptHandler (some (.Name q.1 p)) none [.Return (some q.2) p1] p2:=by
 obtain⟨t,n,b,p0⟩:=h;unfold zA at hq;cases n with
 |some _=>cases hq
 |none =>
  obtain⟨t,rfl,hq⟩:=ag.mp (show t.bind _=some q from hq);obtain⟨y,hy,hq⟩:=ag.mp hq;obtain⟨e,he,rfl⟩:=ae.mp hq;obtain⟨p,rfl⟩:=Z7 hy;rcases b with _|⟨s,_|⟨_,_⟩⟩
  ·cases he
  ·cases s<;>first|(cases he;done)|(cases he;exact⟨_,_,_,rfl⟩)
  ·cases he
theorem Vz(C:gh X c P Ξ)(wz:sN X Ξ.2):∀{hs:List ExceptHandler} {ms:List (Str×ME)},sy c hs=some ms->km X Ξ P hs ms:=by
 intro hs
 induction hs with
 |nil=>intro ms h;cases h;exact .nil wz
 |cons hd hs ih =>
  intro ms h;unfold sy at h;obtain⟨q,hq,h'⟩:=ag.mp h;clear h;have h:=h';clear h';obtain⟨p,p1,p2,rfl⟩:=Tu hq;obtain⟨y,e⟩:=q;dsimp only at h ⊢;split at h
  ·rename_i hc;simp only[Bool.and_eq_true] at hc;obtain⟨m,h1,h⟩:=ag.mp h;obtain⟨XA,h2,rfl⟩:=ae.mp h;obtain⟨C',hm,hi,_⟩:=C.exc y hc.1.1;refine .cons (C.u4 hc.1.2) (E8 hc.2).1 hm (λx C1 hx h1=>C.xF x y C1 C' ?_ hc.1.1 h1 hi) (λea=>VA (X:=C9 X ea) C.mono h1) (ih h2);rw[C.ub] at hx;simpa using hx
  ·cases h
theorem Ux{e f:Option Expr}{q:Str×Expr×List Expr}(h:ym e f=some q):f=none/\∃p p',e=some (.Call (.Name q.1 p) (q.2.1::q.2.2) [] p'):=by
 unfold ym at h;cases f with
 |some _=>cases h
 |none =>
  obtain⟨t,rfl,h⟩:=ag.mp (show e.bind _=some q from h);obtain⟨z,hz,h⟩:=ag.mp h;obtain⟨p,p',rfl⟩:=U2 hz;obtain⟨x,as⟩:=z;cases as with
  |nil=>cases h
  |cons a as=>cases h;exact⟨rfl,_,_,rfl⟩
theorem SN(h:c.ux es e=true):∃x px y py a b k p,es=[.Name x px,.Name y py]/\e=.Tuple [a,b] k p/\c.zP x px y py a b=true:=by
 rcases es with _|⟨s,_|⟨t,_|⟨_,_⟩⟩⟩
 ·cases h
 ·cases h
 ·cases s<;>first|(cases h;done)|skip
  cases t<;>first|(cases h;done)|skip
  cases e<;>first|(cases h;done)|skip
  rename_i l _ _;rcases l with _|⟨a,_|⟨b,_|⟨_,_⟩⟩⟩
  ·cases h
  ·cases h
  ·exact⟨_,_,_,_,_,_,_,_,rfl,rfl,h⟩
  ·cases h
 ·cases h
theorem EV(C:gh X c P Ξ):uB X.K f (c.pK f):=λy C' h hC=>by
 unfold f6.pK at h;obtain⟨⟨f',y'⟩,h1,h2⟩:=aF.mp h;obtain⟨h3,h4⟩:=bV.mp h1;cases h2;have:f'=f:=by simpa using h4
 subst this;exact C.lO f' y' C' h3 hC
variable(S:nD P r)(C:gh X c P Ξ)
include S C
theorem PY{tg:Expr}{m:MS}(hS:∀e m,r.e c e=some m->q8 e=false->∃elt gens sc p,e=.ListComp elt gens sc p/\∃r',nD P r'/\V6 r' c elt gens sc=some m)(hT:∀a b k p m,r.e c (.Tuple [a,b] k p)=some m->∃r' ms,nD P r'/\F3 r' c [a,b]=some ms/\m=.prim .tup ms)(h:BC r c tg e=some m):PS X (.Assign [tg] e pos) (LS X.K Ξ (wpS P m)):=by
 cases tg with
 |Name x px =>
  have h2:(if c.u7 x then(c.idx x).bind λi=>(r.e c e).map λm=>MS.set i m else none)=some m:=h;split at h2
  ·rename_i hl;obtain⟨i,hi,h2⟩:=ag.mp h2;obtain⟨me,he,rfl⟩:=ae.mp h2;cases hn:q8 e with
   |true=>exact EJ C.mono (EB C.nT (C.oO hi) (C.u7 hl).1 (S.e X c Ξ C _ _ he) (S5 hn) (C.u7 hl).2)
   |false =>
    obtain⟨elt,gens,sc,p,rfl,r',S',hx⟩:=hS e me he hn;obtain⟨tg,it,ifs,t,mi,mc,me,cl,rfl,rfl,hit,Sc,q1,q2,q3,q4⟩:=yB S' C hx;refine EJ C.mono ?_;exact(UU Sc C.calm q1 q2 q3 q4 (X6 hit) C.nT (C.oO hi) (C.u7 hl).1 (C.u7 hl).2).imp λN Z H h=>FG C.mono Z H _ h
  ·cases h2
 |Tuple es k pt =>
  have h0:((zB es).elim (if(pX e&&q8 e)||c.ux es e then(c.slots es).bind λis=>(r.e c e).map λm=>MS.kJ (.many is) m else none) λq=>if q8 e&&fb q.2.1&&fb q.2.2.2 then(r.e c q.1).bind λm1=>(r.e c q.2.1).bind λn1=>(r.e c q.2.2.1).bind λm2=>(r.e c q.2.2.2).bind λn2=>(r.e c e).map λm=>MS.tN m1 n1 m2 n2 m else none)=some m:=h;cases hq:zB es with
  |some q =>
   rw[hq] at h0;dsimp only[Option.elim] at h0;split at h0
   ·cases hq
   ·cases h0
  |none =>
  rw[hq] at h0;have h2:(if(pX e&&q8 e)||c.ux es e then(c.slots es).bind λis=>(r.e c e).map λm=>MS.kJ (.many is) m else none)=some m:=h0;split at h2
  ·rename_i hn;rw[dR,aY] at hn;obtain⟨is,hs,h2⟩:=ag.mp h2;obtain⟨me,he,rfl⟩:=ae.mp h2;rcases hn with hn|hn
   ·exact Kr C.mono (EA (S.e X c Ξ C _ _ he) (Fx C.calm C.nT (C.slots hs)) (DZ hn.2) (VY hn.1))
   ·obtain⟨x,px,y,py,a,b,k2,mV,rfl,rfl,hk⟩:=SN hn
    ·unfold f6.zP at hk;simp only[Bool.and_eq_true,decide_eq_true_eq,Bool.not_eq_true'] at hk;obtain⟨⟨⟨⟨⟨⟨⟨l1,l2⟩,eA⟩,hl⟩,oa⟩,ob⟩,f1⟩,f2⟩:=hk;obtain⟨r',ms,S',mZ,rfl⟩:=hT _ _ _ _ _ he;have so:=C.slots hs;cases so with
     |cons hi _ _ so =>
     cases so with
     |cons hj _ _ so =>
     cases so;exact Kp C.mono C.calm C.nT hi hj eA hl (C.loc x l1) (C.loc y l2) oa ob f1 f2 (pe S' C mZ)
  ·cases h2
 |Subscript o i pt =>
  have h2:(if fb i&&q8 e then(r.e c o).bind λmo=>(r.e c i).bind λmi=>(r.e c e).map λm=>MS.cF mo mi m else none)=some m:=h;split at h2
  ·rename_i hn;rw[aY] at hn;obtain⟨mo,ho,h2⟩:=ag.mp h2;obtain⟨mi,hi,h2⟩:=ag.mp h2;obtain⟨me,he,rfl⟩:=ae.mp h2;exact WS C.mono C.units (S.e X c Ξ C _ _ he) (S.e X c Ξ C _ _ ho) (S.e X c Ξ C _ _ hi) (DZ hn.2) (LJ hn.1)
  ·cases h2
 |Attribute o f pt =>
  have h2:(if q8 e then(r.e c o).bind λmo=>(r.e c e).map λm=>MS.fk f (c.pK f) mo m else none)=some m:=h;split at h2
  ·rename_i hn;obtain⟨mo,ho,h2⟩:=ag.mp h2;obtain⟨me,he,rfl⟩:=ae.mp h2;exact MP C.mono (EV C) (S.e X c Ξ C _ _ ho) (S.e X c Ξ C _ _ he) (S5 hn)
  ·cases h2
 |_=>cases h
theorem GI(hS:∀e m,r.e c e=some m->q8 e=false->∃elt gens sc p,e=.ListComp elt gens sc p/\∃r',nD P r'/\V6 r' c elt gens sc=some m)(hT:∀a b k p m,r.e c (.Tuple [a,b] k p)=some m->∃r' ms,nD P r'/\F3 r' c [a,b]=some ms/\m=.prim .tup ms) :
  ∀st m,Cp r c st=some m->PS X st (LS X.K Ξ (wpS P m)):=by
 intro st m h;have hP:=C.mono;cases st with
 |AugAssign tg op e p =>
  cases tg with
  |Attribute o f tp =>
   have h2:(if decide (op=Operator.Add) then(r.e c o).bind λmo=>(r.e c e).map λm=>MS.jo f (c.pK f) mo m else none)=some m:=h;split at h2
   ·rename_i ho;obtain rfl:=aS ho;obtain⟨mo,ho,h2⟩:=ag.mp h2;obtain⟨me,he,rfl⟩:=ae.mp h2;exact MM C.mono (EV C) (S.e X c Ξ C _ _ ho) (S.e X c Ξ C _ _ he)
   ·cases h2
  |Name x tp =>
   have h2:(if c.u7 x then(BR op).bind λp=>(c.idx x).bind λi=>(r.e c e).map λm=>MS.iR i p m else none)=some m:=h;split at h2
   ·rename_i hl;obtain⟨p,hp,h2⟩:=ag.mp h2;obtain⟨i,hi,h2⟩:=ag.mp h2;obtain⟨me,he,rfl⟩:=ae.mp h2;refine MN C.mono ?_ C.nT (C.oO hi) (C.u7 hl).1 (C.u7 hl).2 (S.e X c Ξ C _ _ he);cases op<;>first|(cases hp;done)|skip
    ·cases hp;exact .inl ⟨rfl,rfl⟩
    ·cases hp;exact .inr ⟨rfl,rfl⟩
   ·cases h2
  |_=>cases h
 |Expr e p =>
  have h2:(if q8 e then(r.e c e).map MS.expr else none)=some m:=h;split at h2
  ·rename_i hn;obtain⟨me,he,rfl⟩:=ae.mp h2;exact MO hP (S.e X c Ξ C _ _ he) (S5 hn)
  ·cases h2
 |Assign vG e p =>
  rcases vG with _|⟨tg,_|⟨_,_⟩⟩
  ·cases h
  ·exact PY S C hS hT h
  ·cases h
 |If t a b p =>
  obtain⟨mt,ht,h⟩:=ag.mp h;obtain⟨ma,ha,h⟩:=ag.mp h;obtain⟨mb,hb,rfl⟩:=ae.mp h;exact QE hP (S.t X c Ξ C _ _ ht) (pM S C ha) (pM S C hb)
 |For tg it body mJ p =>
  have h2:(if c.kA&&(mJ.isEmpty&&fb it) then(c.tg tg).bind λt=>(sA r c tg it).bind λmi=>(p6 r c body).map λmb=>MS.dU t mi mb else none)=some m:=h;split at h2
  ·rename_i hc;rw[aY,aY] at hc;cases mJ<;>first|(cases hc.2.1;done)|skip
   obtain⟨t,h1,h2⟩:=ag.mp h2;obtain⟨mi,h3,h2⟩:=ag.mp h2;obtain⟨mb,h4,rfl⟩:=ae.mp h2;exact Ko hP (C.own hc.1) C.calm (AG S C h3) (C.BH h1) (pM S C h4) (X6 hc.2.2)
  ·cases h2
 |While t body mJ p =>
  have h2:(if c.kA&&mJ.isEmpty then(r.t c t).bind λmt=>(p6 r c body).map λmb=>MS.ij mt mb else none)=some m:=h;split at h2
  ·rename_i hc;rw[aY] at hc;cases mJ<;>first|(cases hc.2;done)|skip
   obtain⟨mt,h1,h2⟩:=ag.mp h2;obtain⟨mb,h4,rfl⟩:=ae.mp h2;exact WT hP (C.own hc.1) (S.t X c Ξ C _ _ h1) (pM S C h4)
  ·cases h2
 |Return e p =>
  cases e with
  |none=>cases h;exact(Mi (X:=X)).imp λN bC H ⟨Z,g,ρ,s,R,h⟩=>LQ.now h R .aX
  |some e =>
   obtain⟨me,he,rfl⟩:=ae.mp (show(r.e c e).map (λm=>MS.ret (toR c e m))=some m from h);refine EI hP ?_;exact S.e X c Ξ C _ _ he
 |Raise e f p =>
  obtain⟨q,hq,h2⟩:=ag.mp h;clear h;obtain⟨rfl,px,p2,rfl⟩:=Ux hq;obtain⟨x,e,es⟩:=q;dsimp only at h2 ⊢;split at h2
  ·rename_i hc;simp only[Bool.and_eq_true] at hc;obtain⟨ma,ha,rfl⟩:=ae.mp h2;have ok:=yH ha;obtain⟨C',hm,hi,B,nI,iI,bm,O,FB⟩:=C.exc x hc.1.1.2;exact WR hP C.calm O FB (C.u4 hc.1.2) (pe S C ha) (C.iK hc.1.1.1) (by rw[C.ub];simpa using hc.1.1.2) hi (j8 (ok e (by simp))) (P6 λz hz=>ok z (by simp[hz])) (E8 hc.2).1
  ·cases h2
 |Try body hs el fi p =>
  have h2:(if c.ik&&!hs.isEmpty&&el.isEmpty&&fi.isEmpty then(p6 r { c with iK:=false,ik:=false } body).bind λmb=>(sy c hs).map λms=>MS.W7 mb ms else none)=some m:=h;split at h2
  ·rename_i hc;simp only[Bool.and_eq_true] at hc;obtain⟨⟨⟨ht,hh⟩,he⟩,hf⟩:=hc;cases el<;>first|(cases he;done)|skip
   cases fi<;>first|(cases hf;done)|skip
   cases hs<;>first|(cases hh;done)|skip
   obtain⟨mb,h1,h2⟩:=ag.mp h2;obtain⟨ms,h3,rfl⟩:=ae.mp h2;obtain⟨et,hf,wz⟩:=C.ik ht;exact Kq hP et hf (λpins D=>pM S (C.W7 et hf pins D _) h1) (Vz C wz h3)
  ·cases h2
 |Pass p=>cases h;exact(Mh (X:=X)).imp λN bC H ⟨Z,g,ρ,s,R,h⟩=>h ρ H bC (.refl _ _) R s
 |_=>cases h
end
theorem UB(h:(comp (n+1)).e c e=some m)(hn:q8 e=false):∃elt gens sc p,e=.ListComp elt gens sc p/\V6 (comp n) c elt gens sc=some m:=by
 cases e<;>first|(cases hn;done)|(cases h;done)|exact⟨_,_,_,_,rfl,h⟩
theorem snd:∀n,(∀k,k<=n->nD P (comp k)):=by
 intro n
 induction n with
 |zero =>
  intro k hk;obtain rfl:=Nat.le_zero.mp hk;exact⟨λ_ _ _ _ _ _ h=>(by cases h),λ_ _ _ _ _ _ h=>(by cases h),λ_ _ _ _ _ _ h=>(by cases h)⟩
 |succ n ih =>
  intro k hk;rcases Nat.lt_or_ge k (n+1) with dn|XM
  ·exact ih k (by omega)
  obtain rfl:k=n+1:=by omega
  have I:=ih n (aj n);refine⟨λX c Ξ C e m h=>GK I C e m h,λX c Ξ C e m h=>GH I C e m h,λX c Ξ C st m h=>?_⟩;rcases orElse_some h with h|h
  rotate_left
  ·cases h;exact λpins s Z H D I q=>by obtain⟨_,_,_,_,_,z⟩:=q;exact(show False from z).elim
  refine GI I C (λe m he hn=>?_) (λa b k p m he=>?_) st m h
  ·cases n with
   |zero=>cases he
   |succ n =>
    obtain⟨elt,gens,sc,p,rfl,hx⟩:=UB he hn;exact⟨_,_,_,_,rfl,comp n,ih n (by omega),hx⟩
  ·cases n with
   |zero=>cases he
   |succ n =>
    obtain⟨ms,hm,rfl⟩:=ae.mp (show(F3 (comp n) c [a,b]).map (ME.prim .tup)=some m from he);exact⟨comp n,ms,ih n (by omega),hm,rfl⟩
structure mM where
 nm:Str
 qn:Str
 N:List Str
 ps:List Str
 st:Stmt
def f6.at(c:f6)(d:mM):f6:={ c with N:=d.N,nm:=(k9 d.st).names,kA:=true,iK:=true,ik:=true }
structure iE(K:PySem.W.Frag)(c:f6)(d:mM)(m:aM)(f:Addr)(fd:FuncData):Prop where
 fn:nE K d.nm d.qn d.st f fd
 bi:Binds K fd d.ps []
 sc:gQ d.N d.ps (k9 d.st)
 co:p6 (comp 60) (c.at d) (m4 d.st)=some m.body
 ar:m.ar=d.ps.length
 nn:m.n=d.N.length
structure lE(w:World)(K:PySem.W.Frag)(mg:Str->Option Value)(c:f6)(T:Nat->Option aM):Prop where
 fns:∀x i,c.fns.lookup x=some i->∃d m f fd,T i=some m/\iE K c d m f fd/\mg x=some (.ref f)
 cls:∀x i,c.cls.lookup x=some i->∃C d m f fd,T i=some m/\iE K c d m f fd/\mg x=some (.ref C)/\m7 K x C/\ie K C/\Mk K C f
 lG:∀x y i C,(x,y,i)∈c.lG->m7 K y C->∃d m f fd,T i=some m/\iE K c d m f fd/\Meth K C x f
 lO:∀f y C,(f,y)∈c.lO->m7 K y C->u6 K C f
 con:∀x d,c.con.lookup x=some d->∃v u,mg x=some u/\RelV v u/\∀ρ H,d6 K ρ H d v
 blt:∀x,c.blt.contains x=true->mg x=none
 xG:∀x,c.exc.contains x=true->∃C,mg x=some (.ref C)/\m7 K x C/\∀base:Heap,K.In base->base.Ns mainGlobals mg->∃B newId fP bm,OwnCls x C bm newId mg base/\ExcBaseFacts B newId fP bm
 xE:∀x y C C',c.exc.contains x=true->c.exc.contains y=true->m7 K x C->m7 K y C'->PySem.W.exmOne K (.ref C) (.ref C')=some (decide (x=y\/y="MintError"))
 ot:∀x kvs,c.gd.lookup x=some kvs->∃A vs,mg x=some (.ref A)/\sv K w.params A vs/\ny K kvs vs
section
variable{Pg:Program}{w:World}{K:PySem.W.Frag}{mg:Str->Option Value}{base:Heap}{T:Nat->Option aM}
theorem IJ{q:Str}(h:PySem.W.codeIn K cd q=true):PySem.W.kdsCode K cd=true:=by
 unfold PySem.W.codeIn at h;unfold PySem.W.kdsCode;split at h
 ·dsimp only;split at h
  ·rename_i e;rw[e]
  ·cases h
 ·cases h
theorem LV{f:Addr}:Passes (gg Pg w) (Z2 (gg Pg w) Pg w K mg base N qual scope f cd A outer s H E) E:=λpins Z H1 s1 e s' I h=>by
 obtain⟨C,H',J,fl,hE⟩:=I.flew h;exact Vh J fl (λb o q=>I.base.there b o q (by intro z;cases z)) rfl rfl rfl hE
theorem Wy{f:Addr}:uL (Z2 (gg Pg w) Pg w K mg base N qual scope f cd A outer s H E) E:=λpins Z H1 s1 h' ea C vs I hm hE =>
 TN I hm rfl rfl rfl hE
theorem Li{f:Addr}:sN (Z2 (gg Pg w) Pg w K mg base N qual scope f cd A outer s H E) E:=λpins Z H1 H2 s1 s2 B ea C a0 I l hh hE =>
 leave_held I l hh rfl rfl rfl hE
theorem yq{m:aM}(hT:T i=some m){ds:List D}{g:G}{Q:KD}{E:KX}(h:b0 T k i ds g Q E):ds.length=m.ar:=by
 cases k with
 |zero=>exact h.elim
 |succ k =>
  obtain⟨m',e,h,_⟩:=h;rw[hT] at e;cases e;exact h
theorem QY(kU:K.In base)(rP:base.Ns mainGlobals mg)(A:lE w K mg c T):∀(k i:Nat) d m f fd,T i=some m->iE K c d m f fd->fR Pg w K mg base (gg Pg w) (2*k) f fd d.ps (mU c.exc K d.ps.length (b0 T k i)):=by
 intro k
 induction k with
 |zero =>
  intro i d m f fd hm O;refine⟨λvs H Q E h=>h.1,λA outer s H args us vs Q E _ _ _ _ h=>?_⟩;obtain⟨_,_,_,_,_,_,q⟩:=h;exact q.elim
 |succ k ih =>
  intro i d m f fd hm O;obtain⟨oc,od,kV,doc,pm,an,eU,ct,ky,rfl,lk,kh⟩:=O.fn.ex;refine Pm (k:=2*k+1) lk kh O.sc (λvs H Q E h=>h.1) (λA0 outer s H vs Q E hr h=>?_);obtain⟨hl,xs,g,ρ,rs,R,q⟩:=h;have C:gh (Z2 (gg Pg w) Pg w K mg base d.N d.qn (k9 d.st) f eU A0 outer s H E) (c.at d) (b0 T k) (c.exc,E):=by
   refine⟨rfl,O.sc.nd,λx h=>h,λx h=>h,λx h=>.inr h,λx h=>h,λx h=>?_,λ_ _=>rfl,rfl,?_,(λ_=>PassesOwn.leaving),a9 T k,A.con,A.blt,λx j hj=>?_,λx j hj=>?_,λx y j C' hj hC=>?_,A.lO,rfl,LV,λ_=>Wy,λ_=>⟨rfl,rfl,Li⟩,λx hx=>?_,A.xE,A.ot,λ_=>IJ kh⟩
   ·rcases h with h|h
    ·exact yG h
    ·exact absurd rfl (O.sc.kP _ (aH h))
   ·have:=hr.un;show(A0.deeper _).units+100<cLine;omega
   ·obtain⟨d',m',f',nu,hT,O',hmg⟩:=A.fns x j hj;exact⟨2*k,f',nu,d'.ps,⟨ih j d' m' f' nu hT O',O'.bi,λBq g' Q' E' h'=>(yq hT h').trans O'.ar⟩,hr.mono (by omega),hmg,O'.fn.kp⟩
   ·obtain⟨C',d',m',f',nu,hT,O',hmg,hC,iB,M⟩:=A.cls x j hj;exact⟨2*k,C',f',nu,d'.ps,⟨ih j d' m' f' nu hT O',O'.bi,λBq g' Q' E' h'=>(yq hT h').trans O'.ar⟩,hr,hmg,hC,iB,M⟩
   ·obtain⟨d',m',f',nu,hT,O',M⟩:=A.lG x y j C' hj hC;exact⟨2*k,f',nu,d'.ps,M,⟨ih j d' m' f' nu hT O',O'.bi,λBq g' Q' E' h'=>(yq hT h').trans O'.ar⟩,hr.mono (by omega)⟩
   ·obtain⟨C,h1,h2,h3⟩:=A.xG x hx;exact⟨C,h1,h2,h3 base kU rP⟩
  refine⟨_,pM (snd (P:=b0 T k) 60 60 (aj _)) C O.co,?_⟩;obtain⟨m',e,q1,q⟩:=q;rw[hm] at e;cases e;refine⟨b9 m xs,g,ρ,?_,R,wpS_mono (a9 T k) m.body ⟨λ_ g'=>LQ K ρ H Q .aX g',LQ K ρ H Q,λ_ _=>False,λ_ _=>False⟩ _ _ _ _ _ ⟨λZ g' h bw H' cP e R' s'=>h bw H' _ e R' .aX,λd g' h=>h,λ_ _ h=>h.elim,λ_ _ h=>h.elim⟩ (λ_ _ z=>z) q⟩;have:=k7.start (n:=d.N.length) rs;unfold b9 L2.start;rw[O.nn];exact this
theorem IS{L k0:Nat}{a:Addr}{ns:List Int}(hO:uY H)(hS:eW K H a (ns.map V.int))(h:b0 T k0 L [.ref 0] [.mI (ns.map .int)] (λd _=>d=.bl true) iD) :
  mU exc K 1 (b0 T k0 L) [.ref a] H (λv _=>v=.bl true) λ_ _ _=>False:=by
 refine⟨rfl,[.ref 0],[.mI (ns.map .int)],[a],.cons (.ref rfl) .nil,⟨rfl,λi o b h1 h2=>?_,λi j l m b h1 h2 m1=>?_⟩,a9 T k0 _ _ _ _ _ _ _ (λd g' e bw H' v _ _ r=>?_) (λ_ _ z=>z.elim) h⟩
 ·cases i with
  |zero =>
   cases h1;cases h2;refine⟨_,?_,b6.ofInts ns⟩;rcases hS with(z|⟨o,z⟩)|z
   ·rcases hO a with q|⟨o,xs,q⟩
    ·rw[z] at q;cases q
    ·rw[z] at q;cases q
   ·exact .inl ⟨o,z⟩
   ·exact .inr z
  |succ i=>simp at h1
 ·cases i with
  |zero=>cases h1;cases m1
  |succ i=>simp at h1
 ·subst e;cases r
  rfl
end
end M
namespace M
open PySem L2
variable{P:eG}{Z:S}{g:G}{Q:KD}{E:KX}{N:Ends}{a i n:Nat}{b:Bool}{c f:Str}{o cond elt:ME}{x y d v:D}{cs:List Str}{l:List D}{A B:Prop}{kvs:List (Key×D)}{kg:G->Prop}{ns:List Int}{d0:List Nat}{R:IK->G->Prop}
section
variable{a b c:ME}{x y:MS}{p:Pr}
theorem ye(h:N.nx Z g):wpS P .pass N Z g E:=h
theorem Cu(h:wpS P x ⟨λgP g1=>wpS P y N gP g1 E,N.rt,N.bk,N.ct⟩ Z g E):wpS P (.seq x y) N Z g E:=h
theorem yf(h:wpS P x N Z g E):wpS P (.seq x .pass) N Z g E:=h
theorem KN(h:aP P a Z g (λ_ g1=>N.nx Z g1) E):wpS P (.expr a) N Z g E:=h
theorem Cv(h:aP P a Z g (λx g1=>N.nx (Z.set i (some x)) g1) E):wpS P (.set i a) N Z g E:=h
theorem QX{t:MT}(h:aP P a Z g (λx g1=>je t x Z λgP=>N.nx gP g1) E):wpS P (.kJ t a) N Z g E:=h
theorem Fz{i:ME}(h:aP P a Z g (λx g1=>aP P o Z g1 (λy g2=>aP P i Z g2 (λz g3=>X2 y z x g3 λg4=>N.nx Z g4) E) E) E):wpS P (.cF o i a) N Z g E:=h
theorem KQ(h:aP P a Z g (λx g1=>aP P o Z g1 (λy g2=>sJ f cs y x g2 λg3=>N.nx Z g3) E) E):wpS P (.fk f cs o a) N Z g E:=h
theorem KJ(h:aP P o Z g (λy g1=>∃a' c fs x,y=.ref a'/\g1[a']?=some (.ins c fs)/\c∈cs/\fs.lookup f=some x/\aP P a Z g1 (λz g3=>cG .iadd [x,z] g3 λw g4=>∃ia,g4[a']?=some (.ins c ia)/\ia.length<100/\N.nx Z (g4.set a' (.ins c (x8 f w ia)))) E) E):wpS P (.jo f cs o a) N Z g E:=h
theorem Ct(h:da P c Z g (λt g1=>if t=true then wpS P x N Z g1 E else wpS P y N Z g1 E) E):wpS P (.ifs c x y) N Z g E:=h
theorem QU(h:aP P a Z g N.rt E):wpS P (.ret a) N Z g E:=h
theorem MY{x:Str}(h:eJ P a Z g (λvs g1=>vs.length<=1000/\E ⟨x⟩ g1) E):wpS P (.raise x a) N Z g E:=h
theorem QW{hs:List (Str×ME)}(h:wpS P x N Z g (jJ P N (Z.map λ_=>none) E hs)):wpS P (.W7 x hs) N Z g E:=h
theorem sD{x:Xn}{y:Str}{e:ME}{r:List (Str×ME)}(hx:x.cls=y)(h:aP P e Z g N.rt iD):jJ P N Z E ((y,e)::r) x g:=by unfold jJ;rw[aJ (.inl hx)];exact h
theorem G0{x:Xn}{y:Str}{e:ME}{r:List (Str×ME)}(hx:¬(x.cls=y\/y="MintError"))(h:jJ P N Z E r x g):jJ P N Z E ((y,e)::r) x g:=by unfold jJ;rw[aB hx];exact h
theorem w_var(e:Z[i]?=some (some d))(h:Q d g):aP P (.var i) Z g Q E:=by exact⟨d,e,h⟩
theorem w_lit(h:Q d g):aP P (.lit d) Z g Q E:=h
theorem EM(h:eJ P a Z g (λxs g1=>cG p xs g1 Q) E):aP P (.prim p a) Z g Q E:=h
theorem OR(h:cG p [] g Q):aP P (.prim p .nil) Z g Q E:=by exact h
theorem vh(h:aP P a Z g (λx g1=>cG p [x] g1 Q) E):aP P (.prim p (.cons a .nil)) Z g Q E:=by exact h
theorem V8(h:aP P a Z g (λx g1=>aP P b Z g1 (λy g2=>cG p [x,y] g2 Q) E) E):aP P (.prim p (.cons a (.cons b .nil))) Z g Q E:=by exact h
theorem MW{o1 o2:CmpOp}(h:aP P a Z g (λx g1=>aP P b Z g1 (λy g2=>cG (.cmp o1) [x,y] g2 λz g3=>∃t,z=.bl t/\if t=true then aP P c Z g3 (λw g4=>cG (.cmp o2) [y,w] g4 Q) E else Q (.bl false) g3) E) E):aP P (.chain o1 o2 a b c) Z g Q E:=h
theorem w_and(h:aP P a Z g (λx g1=>∃t,x=.bl t/\if t=true then aP P b Z g1 Q E else Q (.bl false) g1) E):aP P (.dk a b) Z g Q E:=h
theorem w_not(h:aP P a Z g (λx g1=>∃t,x=.bl t/\Q (.bl (!t)) g1) E):aP P (.cJ a) Z g Q E:=h
theorem w_ite(h:da P c Z g (λt g1=>if t=true then aP P a Z g1 Q E else aP P b Z g1 Q E) E):aP P (.ite c a b) Z g Q E:=h
theorem yd{f:Nat}(h:eJ P a Z g (λxs g1=>P f xs g1 Q E) E):aP P (.call f a) Z g Q E:=h
theorem KO{f:Nat}{c:Str}(h:eJ P a Z g (λxs g1=>P f (.ref g1.length::xs) (g1++[.ins c []]) (λd g2=>d=.aX/\Q (.ref g1.length) g2) E) E):aP P (.make c f a) Z g Q E:=h
theorem MX{m:Str}{cs:List (Str×Nat)}(h:aP P o Z g (λx g1=>∃a' c fs f,x=.ref a'/\g1[a']?=some (.ins c fs)/\fs.lookup m=none/\cs.lookup c=some f/\eJ P a Z g1 (λxs g2=>P f (x::xs) g2 Q E) E) E):aP P (.bp m cs o a) Z g Q E:=h
theorem KP(h:aP P o Z g (λx g1=>mX p x g1/\eJ P a Z g1 (λxs g2=>cG p (x::xs) g2 Q) E) E):aP P (.dS p o a) Z g Q E:=h
theorem QT(h:eJ P a Z (g++[.bX []]) (λxs g1=>∃kvs,pI xs []=some kvs/\xs.length<=30/\g1[g.length]?=some (.bX [])/\Q (.ref g.length) (g1.set g.length (.bX kvs))) E):aP P (.lR a) Z g Q E:=h
theorem uA{Q:List D->G->Prop}(h:Q [] g):eJ P .nil Z g Q E:=h
theorem M8{Q:List D->G->Prop}(h:aP P a Z g (λx g1=>eJ P b Z g1 (λxs g2=>Q (x::xs) g2) E) E):eJ P (.cons a b) Z g Q E:=h
theorem KR{Q:Bool->G->Prop}(h:da P a Z g (λt g1=>if t=true then da P b Z g1 Q E else Q false g1) E):da P (.dk a b) Z g Q E:=h
theorem QV{Q:Bool->G->Prop}(h:da P a Z g (λt g1=>if t=true then Q true g1 else da P b Z g1 Q E) E):da P (.gK a b) Z g Q E:=h
theorem KS{Q:Bool->G->Prop}(h:da P a Z g (λt g1=>Q (!t) g1) E):da P (.cJ a) Z g Q E:=h
theorem R9{Q:Bool->G->Prop}(h:Q true g):da P .no Z g Q E:=h
theorem Cw{Q:Bool->G->Prop}(h:aP P a Z g (λx g1=>nB g1 x λb=>Q b g1) E):da P (.dA a) Z g Q E:=h
end
section
variable{i j:Int}{kb:Bool->Prop}{t s:Bool}{m:List D}
theorem OT(h:Q (.int (i+j)) g):cG (.bin .Add) [.int i,.int j] g Q:=⟨_,_,.inl ⟨i,j,_,rfl,rfl,rfl,rfl⟩,h⟩
theorem OU(h:Q (.int (i-j)) g):cG (.bin .Sub) [.int i,.int j] g Q:=⟨_,_,.inl ⟨i,j,_,rfl,rfl,rfl,rfl⟩,h⟩
theorem pQ(c:oI i j)(h:Q (.int (i*j)) g):cG (.bin .Mult) [.int i,.int j] g Q:=⟨_,_,.inl ⟨i,j,_,rfl,⟨c,rfl⟩,rfl,rfl⟩,h⟩
theorem T5(c:0<j)(h:Q (.int (i % j)) g):cG (.bin .Mod) [.int i,.int j] g Q:=⟨_,_,.inl ⟨i,j,_,rfl,⟨c,rfl⟩,rfl,rfl⟩,h⟩
theorem BK(c:xU i j)(h:Q (.int (i / j)) g):cG (.bin .FloorDiv) [.int i,.int j] g Q:=⟨_,_,.inl ⟨i,j,_,rfl,⟨c,rfl⟩,rfl,rfl⟩,h⟩
theorem uf(c:mK i j)(h:Q (.int (i ^ j.toNat)) g):cG (.bin .Pow) [.int i,.int j] g Q:=⟨_,_,.inl ⟨i,j,_,rfl,⟨c,rfl⟩,rfl,rfl⟩,h⟩
theorem ug(hl:l.length+m.length<=100000)(h:Q (.tup (l++m)) g):cG (.bin .Add) [.tup l,.tup m] g Q:=⟨_,_,.inr (.inl ⟨rfl,.inl ⟨l,m,rfl,hl,rfl,rfl⟩⟩),h⟩
theorem zi{i j:Nat}(hi:g[i]?=some (.lst l))(hj:g[j]?=some (.lst m))(hl:l.length+m.length<=100000)(h:Q (.ref g.length) (g++[.lst (l++m)])):cG (.bin .Add) [.ref i,.ref j] g Q:=⟨_,_,.inr (.inl ⟨rfl,.inr (.inl ⟨i,j,l,m,rfl,hi,hj,hl,rfl,rfl⟩)⟩),h⟩
theorem QR(h:Q (.int (-i)) g):cG (.un .USub) [.int i] g Q:=⟨_,_,⟨rfl,i,rfl,rfl,rfl⟩,h⟩
theorem Z6{op:CmpOp}(hb:CA g x y b op)(h:Q (.bl b) g):cG (.cmp op) [x,y] g Q:=⟨_,_,⟨x,y,b,rfl,hb,rfl,rfl⟩,h⟩
theorem Nn(h:Q (.bl (decide (i<j))) g):cG (.cmp .Lt) [.int i,.int j] g Q:=Z6 ⟨i,j,rfl,rfl,rfl⟩ h
theorem Nm(h:Q (.bl (decide (i<=j))) g):cG (.cmp .LtE) [.int i,.int j] g Q:=Z6 ⟨i,j,rfl,rfl,rfl⟩ h
theorem Nl(h:Q (.bl (decide (j<i))) g):cG (.cmp .Gt) [.int i,.int j] g Q:=Z6 ⟨i,j,rfl,rfl,rfl⟩ h
theorem Nk(h:Q (.bl (decide (j<=i))) g):cG (.cmp .GtE) [.int i,.int j] g Q:=Z6 ⟨i,j,rfl,rfl,rfl⟩ h
theorem uZ(h:pD g x y λb=>Q (.bl b) g):cG (.cmp .Eq) [x,y] g Q:=let ⟨_,hb,h⟩:=h;Z6 hb h
theorem Cz(h:pD g x y λb=>Q (.bl (!b)) g):cG (.cmp .NotEq) [x,y] g Q:=let ⟨b,hb,h⟩:=h;Z6 (b:=!b) (show rV g x y (!(!b)) from by rw[qh];exact hb) h
theorem va(h:ph g x y λb=>Q (.bl b) g):cG (.cmp .In) [x,y] g Q:=let ⟨_,hb,h⟩:=h;Z6 (.inl hb) h
theorem Z5(h:ph g x y λb=>Q (.bl (!b)) g):cG (.cmp .NotIn) [x,y] g Q:=let ⟨b,hb,h⟩:=h;Z6 (b:=!b) (.inl (show inR g x y (!(!b)) from by rw[qh];exact hb)) h
theorem Ck(h:kb (decide (i=j))):pD g (.int i) (.int j) kb:=⟨_,.inl ⟨i,j,rfl,rfl,rfl⟩,h⟩
theorem BB(h:kb (t==s)):pD g (.bl t) (.bl s) kb:=⟨_,.inr (.inl ⟨t,s,rfl,rfl,rfl⟩),h⟩
theorem Qr{x y:Str}(h:kb (decide (x=y))):pD g (.str x) (.str y) kb:=⟨_,.inr (.inr (.inl ⟨x,y,rfl,rfl,rfl⟩)),h⟩
theorem OY(h:Q (.bl (decide (i=j))) g):cG (.cmp .Eq) [.int i,.int j] g Q:=uZ (Ck h)
theorem BS(h:Q (.bl (!decide (i=j))) g):cG (.cmp .NotEq) [.int i,.int j] g Q:=Cz (Ck h)
theorem OX(h:Q (.bl (t==s)) g):cG (.cmp .Eq) [.bl t,.bl s] g Q:=uZ (BB h)
theorem Ph(h:Q (.bl (!(t==s))) g):cG (.cmp .NotEq) [.bl t,.bl s] g Q:=Cz (BB h)
theorem OZ{p q:Str}(h:Q (.bl (decide (p=q))) g):cG (.cmp .Eq) [.str p,.str q] g Q:=uZ (Qr h)
theorem oN(h:Q (.bl (Y7 d)) g):cG (.cmp .Is) [d,.aX] g Q:=Z6 ⟨rfl,rfl⟩ h
theorem Pa(h:Q (.bl true) g):cG (.cmp .Is) [.aX,.aX] g Q:=oN h
theorem Pc(h:Q (.bl false) g):cG (.cmp .Is) [.int i,.aX] g Q:=oN h
theorem Pb(h:Q (.bl false) g):cG (.cmp .Is) [.bl t,.aX] g Q:=oN h
theorem Pe{x:Str}(h:Q (.bl false) g):cG (.cmp .Is) [.str x,.aX] g Q:=oN h
theorem Pf(h:Q (.bl false) g):cG (.cmp .Is) [.tup l,.aX] g Q:=oN h
theorem Pd(h:Q (.bl false) g):cG (.cmp .Is) [.ref n,.aX] g Q:=oN h
theorem zS(h:kb t):nB g (.bl t) kb:=⟨t,.inr (.inl rfl),h⟩
theorem QM{i:Nat}(hl:c8 g i=some l)(h:kb (!l.isEmpty)):nB g (.ref i) kb:=⟨_,.inr (.inr (.inr (.inr ⟨i,l,rfl,hl,rfl⟩))),h⟩
theorem uN{p:Bool->Prop}(h:p t):∃s,D.bl t=D.bl s/\p s:=⟨t,rfl,h⟩
theorem IE{p:Int->Prop}(h:p i):∃s,D.int i=D.int s/\p s:=⟨i,rfl,h⟩
theorem if2{c:Prop}[Decidable c](h1:c->A)(h2:¬c->B):if decide c=true then A else B:=by
 by_cases h:c
 ·rw[aJ (aQ h)];exact h1 h
 ·rw[aB (by rw[aw h];decide)];exact h2 h
theorem jD(h:A):if true=true then A else B:=by rw[aJ rfl];exact h
theorem U1(h:B):if false=true then A else B:=by rw[aB (by decide)];exact h
theorem CD(h:A):if(!false)=true then A else B:=by rw[aJ (show(!false)=true from rfl)];exact h
theorem ND(h:B):if(!true)=true then A else B:=by rw[aB (by decide)];exact h
theorem hJ(hb:b=false)(h:B):if b=true then A else B:=by rw[hb];exact U1 h
theorem iY(hb:b=true)(h:A):if b=true then A else B:=by rw[hb];exact jD h
theorem Q7(hl:c8 g a=some l)(h2:iu l i=some d)(h:Q d g):cG .ix [.ref a,.int i] g Q:=⟨_,_,⟨rfl,.inl ⟨_,l,i,rfl,hl,h2⟩⟩,h⟩
theorem nA(h2:iu l i=some d)(h:Q d g):cG .ix [.tup l,.int i] g Q:=⟨_,_,⟨rfl,.inl ⟨_,l,i,rfl,rfl,h2⟩⟩,h⟩
theorem u3{i:Nat}{k:Key}(hg:g[i]?=some (.bX kvs))(hk:Y5 y=some k)(hv:L8 kvs k=some v)(h:Q v g):cG .ix [.ref i,y] g Q:=⟨_,_,⟨rfl,.inr (.inl ⟨i,kvs,y,k,rfl,hg,hk,hv⟩)⟩,h⟩
theorem S1(hl:g[a]?=some (.lst l))(hn:lH l.length i=some n)(h:kg (g.set a (.lst (l.set n v)))):X2 (.ref a) (.int i) v g kg:=⟨_,.inl ⟨a,i,l,n,rfl,rfl,hl,hn,rfl⟩,h⟩
theorem sI{i:Nat}{k:Key}(hg:g[i]?=some (.bX kvs))(hk:Y5 y=some k)(hl:kvs.length<100000)(h:kg (g.set i (.bX (putD kvs k v)))):X2 (.ref i) y v g kg:=⟨_,.inr ⟨i,kvs,k,rfl,hg,hk,hl,rfl⟩,h⟩
theorem uy{fs:List (Str×D)}(hg:g[a]?=some (.ins c fs))(hc:c∈cs)(hl:fs.length<100)(h:kg (g.set a (.ins c (x8 f v fs)))):sJ f cs (.ref a) v g kg:=⟨_,⟨a,c,fs,rfl,hg,hc,hl,rfl⟩,h⟩
theorem K8{fs:List (Str×D)}(hg:g[a]?=some (.ins c fs))(hf:fs.lookup f=some d)(h:Q d g):cG (.fld f) [.ref a] g Q:=⟨_,_,⟨a,c,fs,rfl,hg,hf,rfl⟩,h⟩
theorem a7(h:g[a]?=some (.lst l)):c8 g a=some l:=by simp only[c8,h,zH]
theorem Su(h:g[a]?=some (.mI l)):c8 g a=some l:=by simp only[c8,h,zH]
theorem pV(hl:c8 g a=some l)(h:Q (.int l.length) g):cG .len [.ref a] g Q:=⟨_,_,⟨rfl,.inl ⟨_,l,rfl,hl,rfl⟩⟩,h⟩
theorem Cd(hl:g[a]?=some (.bX kvs))(h:Q (.int kvs.length) g):cG .len [.ref a] g Q:=⟨_,_,⟨rfl,.inr (.inl ⟨a,kvs,rfl,hl,rfl⟩)⟩,h⟩
theorem Kf(h:Q (.tup (cut l (some i) none)) g):cG (.jg true false) [.tup l,.int i] g Q:=⟨_,_,⟨_,i,rfl,.inl ⟨l,rfl,rfl,rfl⟩⟩,h⟩
theorem Ke(h:Q (.tup (cut l none (some i))) g):cG (.jg false true) [.tup l,.int i] g Q:=⟨_,_,⟨_,i,rfl,.inl ⟨l,rfl,rfl,rfl⟩⟩,h⟩
theorem EG(hl:c8 g a=some l)(h:Q (.ref g.length) (g++[.lst (cut l (some i) none)])):cG (.jg true false) [.ref a,.int i] g Q:=⟨_,_,⟨_,i,rfl,.inr ⟨a,l,rfl,hl,rfl,rfl⟩⟩,h⟩
theorem EF(hl:c8 g a=some l)(h:Q (.ref g.length) (g++[.lst (cut l none (some i))])):cG (.jg false true) [.ref a,.int i] g Q:=⟨_,_,⟨_,i,rfl,.inr ⟨a,l,rfl,hl,rfl,rfl⟩⟩,h⟩
theorem zq(hl:l.length<=1000)(h:Q (.tup l) g):cG .tup l g Q:=⟨_,_,⟨hl,rfl,rfl⟩,h⟩
theorem sH(hl:l.length<=1000)(h:Q (.ref g.length) (g++[.lst l])):cG .lst l g Q:=⟨_,_,⟨hl,rfl,rfl⟩,h⟩
theorem Cf(hl:c8 g a=some l)(h:Q (.ref g.length) (g++[.lst l])):cG .list [.ref a] g Q:=⟨_,_,.inl ⟨_,l,rfl,hl,rfl,rfl⟩,h⟩
theorem sE(hg:g[a]?=some (.bX kvs))(hz:kvs.length<=10000)(h:Q (.ref g.length) (g++[.lst ((kvs.map (·.1)).map kD)])):cG .list [.ref a] g Q:=⟨_,_,.inr ⟨a,kvs,rfl,hg,hz,rfl,rfl⟩,h⟩
theorem PQ(h:Q (.ref g.length) (g++[.lst l])):cG .list [.tup l] g Q:=⟨_,_,.inl ⟨_,l,rfl,rfl,rfl,rfl⟩,h⟩
theorem fo{c:String}(hc:c∈["int","bool","str","tuple","list"])(hb:oP g d c=some b)(h:Q (.bl b) g):cG .isin [d,.ty c] g Q:=⟨_,_,⟨d,c,b,rfl,hc,hb,rfl,rfl⟩,h⟩
theorem Es(h:Q (.int (i+j)) g):cG .iadd [.int i,.int j] g Q:=⟨_,_,.inl ⟨i,j,rfl,rfl,rfl⟩,h⟩
theorem Fi{i:Nat}(hg:g[i]?=some (.bX kvs))(hk:kvs.map (·.1)=ns.map Sum.inl)(hz:ns.length<60)(h:Q (.ref g.length) (g++[.lst ((n9 ns).map .int)])):cG .eh [.ref i] g Q:=⟨_,_,.inl ⟨i,kvs,ns,rfl,hg,hk,hz,rfl,rfl⟩,h⟩
theorem LU{i:Nat}(hl:c8 g i=some (ns.map .int))(hz:ns.length<60)(h:Q (.ref g.length) (g++[.lst ((K3 ns).map .int)])):cG .eh [.ref i] g Q:=⟨_,_,.inr ⟨_,ns,rfl,hl,hz,rfl,rfl⟩,h⟩
theorem Lz{i:Nat}(hg:g[i]?=some (.lst l))(h:Q .aX (g.set i (.lst []))):cG .clear [.ref i] g Q:=⟨_,_,⟨i,l,rfl,hg,rfl,rfl⟩,h⟩
theorem VU{i:Nat}(hg:g[i]?=some (.lst l)):mX .clear (.ref i) g:=⟨i,l,rfl,a7 hg⟩
theorem Jo(hl:c8 g a=some (ns.map .int))(hz:ns.length<60)(h:Q (.ref g.length) (g++[.lst ((n9 ns).map .int)])):cG .sset [.ref a] g Q:=⟨_,_,⟨a,ns,rfl,hl,hz,rfl,rfl⟩,h⟩
theorem N8(h:Q (.ref g.length) (g++[.bX []])):cG .N8 [] g Q:=⟨_,_,⟨rfl,rfl,rfl⟩,h⟩
theorem Et(hl:c8 g a=some (ns.map .int))(hz:ns.length<60)(h:Q (.int (ST.f9 [] ns).length) g):cG .Q5 [.ref a] g Q:=⟨_,_,⟨a,ns,rfl,hl,hz,rfl,rfl⟩,h⟩
theorem KL{i:Nat}{p:Pr}{v:ME}(e:Z[i]?=some (some x))(h:aP P v Z g (λz g1=>cG p [x,z] g1 λw g2=>N.nx (Z.set i (some w)) g2) E):wpS P (.iR i p v) N Z g E:=⟨x,e,h⟩
theorem Pu{v:Bool}(h:Q (.int (if v then 1 else 0)) g):cG .int [.bl v] g Q:=⟨_,_,⟨rfl,.inr ⟨v,rfl,rfl⟩⟩,h⟩
theorem BZ{kvs:List D}{x:Str}(hv:M7 kvs x=some v)(h:Q v g):cG .lB [.tup kvs,.str x] g Q:=⟨_,_,⟨kvs,x,rfl,hv,rfl⟩,h⟩
theorem zh{i:Nat}{v:Bool}(hl:c8 g i=some l)(hv:T4 l=some v)(h:Q (.bl v) g):cG .all [.ref i] g Q:=⟨_,_,⟨i,l,v,rfl,hl,.inl hv,rfl,rfl⟩,h⟩
theorem o8{i:Nat}{k:S->Prop}(h:k (Z.set i (some x))):je (.one i) x Z k:=h
theorem yE{is:List Nat}{bD:S}{k:S->Prop}(e:C0 is l Z=some bD)(h:k bD):je (.many is) (.tup l) Z k:=⟨l,bD,rfl,e,h⟩
end
theorem yU:∀(bs:List Bool),T4 (bs.map D.bl)=some (bs.all id):=by
 intro bs
 induction bs with
 |nil=>rfl
 |cons b r ih=>simp[T4,ih]
theorem call_of{T:Nat->Option aM}{k f:Nat}{m:aM}{ds:List D}(hT:T f=some m)(hl:ds.length=m.ar)(h:wpS (b0 T k) m.body ⟨λ_ g'=>Q .aX g',Q,λ_ _=>False,λ_ _=>False⟩ (b9 m ds) g E):b0 T (k+1) f ds g Q E:=⟨m,hT,hl,h⟩
theorem m8{a:ME}{f:Nat}{m:Str}{fs:List (Str×D)}{cs:List (Str×Nat)}(hg:g[i]?=some (.ins c fs))(hf:fs.lookup m=none)(hc:cs.lookup c=some f)(h:eJ P a Z g (λxs g2=>P f (.ref i::xs) g2 Q E) E) :
  ∃a' c fs f,D.ref i=.ref a'/\g[a']?=some (.ins c fs)/\fs.lookup m=none/\cs.lookup c=some f/\eJ P a Z g (λxs g2=>P f (.ref i::xs) g2 Q E) E:=⟨i,c,fs,f,rfl,hg,hf,hc,h⟩
def IK.Is(k:IK)(l:List D)(g:G):Prop:=∀i,k.at i g=some l[i]?
theorem Q8:(IK.fix l).Is l g:=λ_=>rfl
theorem v8(h:c8 g a=some l):(IK.lst a).Is l g:=λi=>by simp only[IK.at,h]
def oA(l:List D):List D:=l.mapIdx λi d=>.tup [.int i,d]
theorem IG(h:c8 g a=some l):(IK.oz a).Is (oA l) g:=λi=>by
 simp only[IK.at,h,oA,List.getElem?_mapIdx]
theorem ES(l:List D):(oA l).length=l.length:=by simp[oA]
theorem Le(h:(oA l)[i]?=some x):∃d,l[i]?=some d/\x=.tup [.int i,d]:=by
 rw[oA,List.getElem?_mapIdx,ae] at h;obtain⟨d,h1,h2⟩:=h;exact⟨d,h1,h2.symm⟩
theorem U6{lo:Int}(h:(w6 lo n)[i]?=some x):i<n/\x=.int (lo+i):=by
 unfold w6 at h;have hi:i<n:=by
  have:=(az.mp h).1;simpa using this
 rw[aA,Ai hi] at h;cases h;exact⟨hi,rfl⟩
theorem U5(lo:Int)(n:Nat):(w6 lo n).length=n:=by simp[w6]
section
variable{it a b c:ME}{s:MS}{t:MT}
theorem WX{k:IK}{fin:S->G->Prop}{turn:D->(S->G->Prop)->S->G->Prop}(I:Nat->S->G->Prop)(hk:∀i Z g,I i Z g->k.Is l g)(h0:I 0 Z g)(hs:∀i x Z g,l[i]?=some x->I i Z g->turn x (I (i+1)) Z g)(hd:∀Z g,I l.length Z g->fin Z g):turns k Z g fin turn:=by
 refine⟨λi m Z g=>m=l.length-i/\i<=l.length/\I i Z g,⟨l.length,by simp,bY _,h0⟩,?_⟩;rintro i m Z g ⟨rfl,hi,p⟩;rw[hk i Z g p i];by_cases dn:i<l.length
 ·rw[aC dn];exact .inr ⟨_,rfl,I (i+1),λbD g' p'=>⟨l.length-(i+1),by omega,rfl,dn,p'⟩,hs i l[i] Z g (aC dn) p⟩
 ·have e:i=l.length:=by omega
  subst e;rw[eM (aj _)];exact .inl ⟨rfl,hd Z g p⟩
theorem V9(hP:i0 P)(h:fZ P it Z g (λk g1=>∃(l:List D) (I:Nat->S->G->Prop),(∀i Z g,I i Z g->k.Is l g)/\I 0 Z g1 /\
      (∀ i x Z g,l[i]?=some x->I i Z g->je t x Z λcw=>wpS P s ⟨I (i + 1),N.rt,N.nx,I (i + 1)⟩ cw g E)/\∀ Z g,I l.length Z g->N.nx Z g) E):wpS P (.dU t it s) N Z g E :=
  v5 hP it _ _ _ _ _ _ (λk g1 hq=>by obtain⟨l,I,hk,h0,hs,hd⟩:=hq;exact WX I hk h0 hs hd) (λ_ _ z=>z) h
theorem sT(hP:i0 P)(h:fZ P it Z g (λk g1=>∃(l:List D) (I:Nat->List D->S->G->Prop),l.length<=1000/\(∀i ys Z g,I i ys Z g->k.Is l g/\ys.length<=i)/\I 0 [] (L1 Z d0 n) g1 /\
      (∀i x ys Z g,l[i]?=some x->I i ys Z g->je t x Z λcw=>da P cond cw g (λc g3=>if c=true then aP P elt cw g3 (λy g4=>I (i+1) (ys++[y]) cw g4) iD else I (i+1) ys cw g3) iD) /\
      ∀ ys Z g,I l.length ys Z g->Q (.ref g.length) (g ++ [.lst ys])) E):aP P (.comp d0 n t it cond elt) Z g Q E:=by
  refine v5 hP it _ _ _ _ _ _ (λk g1 h=>?_) (λ_ _ z=>z) h;obtain⟨l,I,hl,hk,h0,hs,hd⟩:=h;refine⟨λi m ys Z g=>m=l.length-i/\i<=l.length/\I i ys Z g,⟨l.length,by simp,bY _,h0⟩,?_⟩;rintro i m ys Z g ⟨rfl,hi,p⟩;obtain⟨qV,hy⟩:=hk i ys Z g p;rw[qV i];by_cases dn:i<l.length
  · rw[aC dn];refine .inr ⟨_,rfl,by omega,v7 (λcw q=>k8 hP cond _ _ _ _ _ _ (λc g3 q=>?_) (λ_ _ z=>z) q) (hs i l[i] ys Z g (aC dn) p)⟩;cases c
    · exact⟨l.length-(i+1),by omega,rfl,dn,by simpa using(show I (i+1) ys cw g3 from q)⟩
    · exact b7 hP elt _ _ _ _ _ _ (λy g4 q=>⟨l.length-(i+1),by omega,rfl,dn,by simpa using q⟩) (λ_ _ z=>z) q
  · have e:i=l.length:=by omega
    subst e;rw[eM (aj _)];exact .inl ⟨rfl,hd ys Z g p⟩
theorem MZ(hP:i0 P)(h:fZ P it Z g (λk g1=>∃(l:List D) (I:Nat->List Int->S->G->Prop),l.length<60/\(∀i ys Z g,I i ys Z g->k.Is l g/\ys.length<=i)/\I 0 [] (L1 Z d0 n) g1 /\
      (∀i x ys Z g,l[i]?=some x->I i ys Z g->je t x Z λcw=>da P cond cw g (λc g3=>if c=true then aP P elt cw g3 (λy g4=>∃j,y=.int j/\I (i+1) (ys++[j]) cw g4) iD else I (i+1) ys cw g3) iD) /\
      ∀ ys Z g,I l.length ys Z g->Q (.ref g.length) (g ++ [.lst ((n9 ys).map .int)])) E):aP P (.gb d0 n t it cond elt) Z g Q E:=by
  refine v5 hP it _ _ _ _ _ _ (λk g1 h=>?_) (λ_ _ z=>z) h;obtain⟨l,I,hl,hk,h0,hs,hd⟩:=h;refine⟨λi m ys Z g=>m=l.length-i/\i<=l.length/\I i ys Z g,⟨l.length,by simp,bY _,h0⟩,?_⟩;rintro i m ys Z g ⟨rfl,hi,p⟩;obtain⟨qV,hy⟩:=hk i ys Z g p;rw[qV i];by_cases dn:i<l.length
  · rw[aC dn];refine .inr ⟨_,rfl,by omega,v7 (λcw q=>k8 hP cond _ _ _ _ _ _ (λc g3 q=>?_) (λ_ _ z=>z) q) (hs i l[i] ys Z g (aC dn) p)⟩;cases c
    · exact⟨l.length-(i+1),by omega,rfl,dn,by simpa using(show I (i+1) ys cw g3 from q)⟩
    · refine b7 hP elt _ _ _ _ _ _ (λy g4 q=>?_) (λ_ _ z=>z) q;obtain⟨j,e,q⟩:=q;exact⟨j,e,l.length-(i+1),by omega,rfl,dn,by simpa using q⟩
  · have e:i=l.length:=by omega
    subst e;rw[eM (aj _)];exact .inl ⟨rfl,by omega,hd ys Z g p⟩
theorem Uv(hP:i0 P)(h:aP P a Z g (λx g1=>∃j:Nat,x=.int j/\j<=1000/\∃I:Nat->List D->S->G->Prop,I 0 [] (L1 Z d0 n) g1/\(∀i ys Z g,I i ys Z g->ys.length<=i) /\
      (∀(i:Nat) ys Z g,i<j->I i ys Z g->je t (.int i) Z λcw=>da P cond cw g (λc g3=>if c=true then aP P elt cw g3 (λy g4=>I (i+1) (ys++[y]) cw g4) iD else I (i+1) ys cw g3) iD) /\
      ∀ ys Z g,I j ys Z g->Q (.ref g.length) (g ++ [.lst ys])) E):aP P (.comp d0 n t (.fc a) cond elt) Z g Q E:=by
  refine sT hP ?_;refine b7 hP a _ _ _ _ _ _ (λx g1 h=>?_) (λ_ _ z=>z) h;obtain⟨j,rfl,hj,I,h0,hz,hs,hd⟩:=h;refine⟨j,rfl,by omega,by omega,_,I,by rw[U5];simpa using hj,λi ys Z g p=>⟨Q8,hz i ys Z g p⟩,h0,λi x ys Z g hx p=>?_,λys Z g p=>hd ys Z g (by rw[U5] at p;simpa using p)⟩;obtain⟨hi,rfl⟩:=U6 hx;rw[show(0:Int)+(i:Int)=i by omega];exact hs i ys Z g (by simpa using hi) p
theorem M'(I:Nat->S->G->Prop)(m0:Nat)(h0:I m0 Z g)(hs:∀m Z g,I m Z g->da P c Z g (λt g1=>if t=true then wpS P s ⟨λbD g'=>∃m',m'<m/\I m' bD g',N.rt,N.nx,λbD g'=>∃m',m'<m/\I m' bD g'⟩ Z g1 E else N.nx Z g1) E)(hP:i0 P):wpS P (.ij c s) N Z g E:=by
 refine⟨I,⟨m0,h0⟩,λm Z g p=>k8 hP c _ _ _ _ _ _ (λt g1 q=>?_) (λ_ _ z=>z) (hs m Z g p)⟩;cases t
 ·exact q
 ·exact⟨_,λ_ _ z=>z,q⟩
theorem vc(hP:i0 P)(h:aP P a Z g (λx g1=>∃j:Int,x=.int j/\-(2 ^ 62)<=j/\j<2 ^ 62/\R (.fix (w6 0 j.toNat)) g1) E):fZ P (.fc a) Z g R E:=h
theorem NC(hP:i0 P)(h:aP P a Z g (λx g1=>aP P b Z g1 (λy g2=>∃i j:Int,x=.int i/\y=.int j/\(-(2 ^ 62)<=i/\i<2 ^ 62/\-(2 ^ 62)<=j/\j<2 ^ 62)/\R (.fix (w6 i (j-i).toNat)) g2) E) E):fZ P (.iq a b) Z g R E:=h
theorem GR(hP:i0 P)(h:aP P a Z g (λx g1=>∃l,x=.tup l/\R (.fix l) g1) E):fZ P (.ei a) Z g R E:=by
 exact b7 hP a _ _ _ _ _ _ (λx g1 h=>.inl h) (λ_ _ z=>z) h
theorem jM(hP:i0 P)(h:aP P a Z g (λx g1=>∃i l,x=.ref i/\c8 g1 i=some l/\R (.lst i) g1) E):fZ P (.ei a) Z g R E:=by
 exact b7 hP a _ _ _ _ _ _ (λx g1 h=>.inr h) (λ_ _ z=>z) h
theorem AL(h:aP P a Z g (λx g1=>∃i l,x=.ref i/\c8 g1 i=some l/\R (.oz i) g1) E):fZ P (.jC a) Z g R E:=h
end
end M
namespace M
open PySem L2 PySem.Spec PyProof.Rows
variable{K:PySem.W.Frag}{x:Str}{C:Addr}
structure RF where
 id:Nat
 nm:Str
 N:List Str
 k:Nat
 i:Nat
 m:aM
structure RM where
 id:Nat
 cl:Str
 nm:Str
 qn:Str
 N:List Str
 k:Nat
 i:Nat
 j:Nat
 m:aM
def RF.d(tp:Nat->Stmt)(r:RF):mM:=⟨r.nm,r.nm,r.N,r.N.take r.k,tp r.i⟩
def RM.d(mt:Nat->Nat->Stmt)(r:RM):mM:=⟨r.nm,r.qn,r.N,r.N.take r.k,mt r.i r.j⟩
def pO(F:List RF)(M:List RM)(i:Nat):Option aM:=match F.find? λr=>Nat.beq r.id i with
 |some r=>some r.m
 |none=>(M.find? λr=>Nat.beq r.id i).map (·.m)
section
variable(tp:Nat->Stmt)(mt:Nat->Nat->Stmt)(K:PySem.W.Frag)
def PF:List RF->Prop
 |[]=>True
 |r::l=>(∃f fd,PySem.W.nsIn K mainGlobals r.nm=some (some (.ref f))/\nE K r.nm r.nm (tp r.i) f fd)/\PF l
def PM:List RM->Prop
 |[]=>True
 |r::l=>(∃C f fd,PySem.W.nsIn K mainGlobals r.cl=some (some (.ref C))/\Meth K C r.nm f/\nE K r.nm r.qn (mt r.i r.j) f fd)/\PM l
def PC:List (Str×Nat)->Prop
 |[]=>True
 |r::l=>(∃C,PySem.W.nsIn K mainGlobals r.1=some (some (.ref C))/\ie K C/\PySem.W.makesIn K C=true/\PySem.W.keepIn K (.ref C)=true)/\PC l
def PA:List (Str×Str)->Prop
 |[]=>True
 |r::l=>(∃C,PySem.W.nsIn K mainGlobals r.2=some (some (.ref C))/\PySem.W.findIn K (.ref C) r.1=some none)/\PA l
def PB:List Str->Prop
 |[]=>True
 |r::l=>PySem.W.nsIn K mainGlobals r=some none/\PB l
def PX:List Str->Prop
 |[]=>True
 |r::l=>(∃C,PySem.W.nsIn K mainGlobals r=some (some (.ref C))/\PySem.W.excIn K C [.type "ValueError",.type "Exception",.type "BaseException",.type "object"] "ValueError.__new__"=true)/\PX l
def BF:List RF->Prop
 |[]=>True
 |r::l=>(∀(kV doc pm:Value) (an:Option Addr) (eU ct:Value) (us:List Value),us.length=(r.N.take r.k).length->bindArgs (PySem.W.fnOf r.nm r.nm (x6 (tp r.i)) (m4 (tp r.i)) (k9 (tp r.i)) .none kV doc pm an eU ct) ⟨us,[]⟩=pure ((r.N.take r.k).zip us))/\BF l
def BM:List RM->Prop
 |[]=>True
 |r::l=>(∀(kV doc pm:Value) (an:Option Addr) (eU ct:Value) (us:List Value),us.length=(r.N.take r.k).length->bindArgs (PySem.W.fnOf r.nm r.qn (x6 (mt r.i r.j)) (m4 (mt r.i r.j)) (k9 (mt r.i r.j)) .none kV doc pm an eU ct) ⟨us,[]⟩=pure ((r.N.take r.k).zip us))/\BM l
def YF(c:f6):List RF->Prop
 |[]=>True
 |r::l=>p6 (comp 60) (c.at (r.d tp)) (m4 (tp r.i))=some r.m.body/\YF c l
def YM(c:f6):List RM->Prop
 |[]=>True
 |r::l=>p6 (comp 60) (c.at (r.d mt)) (m4 (mt r.i r.j))=some r.m.body/\YM c l
end
section
variable{tp:Nat->Stmt}{mt:Nat->Nat->Stmt}{c:f6}{id k i j:Nat}{cl nm qn:Str}{N:List Str}{m:aM}{f:Addr}{oc kV doc pm eU ct:Value}{od an:Option Addr}{ky:Array (Option Value)}
theorem PF.nil:PF tp K []:=trivial
theorem PF.cons{l:List RF}(a:PySem.W.nsIn K mainGlobals nm=some (some (.ref f)))(lk:K.lookup f=some ⟨oc,od,.func (PySem.W.fnOf nm nm (x6 (tp i)) (m4 (tp i)) (k9 (tp i)) .none kV doc pm an eU ct),ky⟩)(cd:PySem.W.codeIn K eU nm=true)(kp:PySem.W.keepIn K (.ref f)=true)(h:PF tp K l):PF tp K (⟨id,nm,N,k,i,m⟩::l):=⟨⟨f,_,a,Er lk cd kp⟩,h⟩
theorem PM.nil:PM mt K []:=trivial
theorem PM.cons{l:List RM}(c0:PySem.W.nsIn K mainGlobals cl=some (some (.ref C)))(a:PySem.W.findIn K (.ref C) nm=some (some (.ref f)))(af:PySem.W.isFn K (.ref f)=true)(lk:K.lookup f=some ⟨oc,od,.func (PySem.W.fnOf nm qn (x6 (mt i j)) (m4 (mt i j)) (k9 (mt i j)) .none kV doc pm an eU ct),ky⟩)(cd:PySem.W.codeIn K eU qn=true)(kp:PySem.W.keepIn K (.ref f)=true)(h:PM mt K l):PM mt K (⟨id,cl,nm,qn,N,k,i,j,m⟩::l):=⟨⟨C,f,_,c0,⟨a,af,kp⟩,Er lk cd kp⟩,h⟩
theorem PC.nil:PC K []:=trivial
theorem PC.cons{l:List (Str×Nat)}(cn:PySem.W.nsIn K mainGlobals x=some (some (.ref C)))(cp:PySem.W.plainGet K C Str.empty=true)(Iw:PySem.W.hasDictIn K C=true)(Ir:PySem.W.plainOver K C=true)(Iq:PySem.W.findIn K (.ref C) "__setattr__"=some (some (.builtin "object.__setattr__")))(Iu:PySem.W.makesIn K C=true)(Iv:PySem.W.keepIn K (.ref C)=true)(h:PC K l):PC K ((x,i)::l):=⟨⟨C,cn,⟨cp,Iw,Ir,Iq⟩,Iu,Iv⟩,h⟩
theorem PA.nil:PA K []:=trivial
theorem PA.cons{l:List (Str×Str)}(cn:PySem.W.nsIn K mainGlobals x=some (some (.ref C)))(fl:PySem.W.findIn K (.ref C) nm=some none)(h:PA K l):PA K ((nm,x)::l):=⟨⟨C,cn,fl⟩,h⟩
theorem PB.nil:PB K []:=trivial
theorem PB.cons{l:List Str}(cn:PySem.W.nsIn K mainGlobals x=some none)(h:PB K l):PB K (x::l):=⟨cn,h⟩
theorem PX.nil:PX K []:=trivial
theorem PX.cons{l:List Str}(cn:PySem.W.nsIn K mainGlobals x=some (some (.ref C)))(q:PySem.W.excIn K C [.type "ValueError",.type "Exception",.type "BaseException",.type "object"] "ValueError.__new__"=true)(h:PX K l):PX K (x::l):=⟨⟨C,cn,q⟩,h⟩
theorem An{P:List Value->Prop}{n:Nat}(h:∀a vs,vs.length=n->P (a::vs))(us:List Value)(hl:us.length=n+1):P us:=by
 cases us with
 |nil=>cases hl
 |cons a vs=>exact h a vs (Nat.succ.inj hl)
theorem Am{P:List Value->Prop}(h:P [])(us:List Value)(hl:us.length=0):P us:=by
 cases List.length_eq_zero_iff.mp hl;exact h
theorem BF.nil:BF tp []:=trivial
theorem BF.cons{l:List RF}(h:∀(kV doc pm:Value) (an:Option Addr) (eU ct:Value) (us:List Value),us.length=(N.take k).length->bindArgs (PySem.W.fnOf nm nm (x6 (tp i)) (m4 (tp i)) (k9 (tp i)) .none kV doc pm an eU ct) ⟨us,[]⟩=pure ((N.take k).zip us))(h2:BF tp l):BF tp (⟨id,nm,N,k,i,m⟩::l):=⟨h,h2⟩
theorem BM.nil:BM mt []:=trivial
theorem BM.cons{l:List RM}(h:∀(kV doc pm:Value) (an:Option Addr) (eU ct:Value) (us:List Value),us.length=(N.take k).length->bindArgs (PySem.W.fnOf nm qn (x6 (mt i j)) (m4 (mt i j)) (k9 (mt i j)) .none kV doc pm an eU ct) ⟨us,[]⟩=pure ((N.take k).zip us))(h2:BM mt l):BM mt (⟨id,cl,nm,qn,N,k,i,j,m⟩::l):=⟨h,h2⟩
theorem YF.nil:YF tp c []:=trivial
theorem YF.cons{l:List RF}(h:p6 (comp 60) (c.at ⟨nm,nm,N,N.take k,tp i⟩) (m4 (tp i))=some m.body)(h2:YF tp c l):YF tp c (⟨id,nm,N,k,i,m⟩::l):=⟨h,h2⟩
theorem YM.nil:YM mt c []:=trivial
theorem YM.cons{l:List RM}(h:p6 (comp 60) (c.at ⟨nm,qn,N,N.take k,mt i j⟩) (m4 (mt i j))=some m.body)(h2:YM mt c l):YM mt c (⟨id,cl,nm,qn,N,k,i,j,m⟩::l):=⟨h,h2⟩
theorem YF.get:∀{l:List RF},YF tp c l->∀r∈l,p6 (comp 60) (c.at (r.d tp)) (m4 (tp r.i))=some r.m.body
 |_::_,h,r,hr=>(ay.mp hr).elim (λz=>z▸h.1) (YF.get h.2 r)
theorem YM.get:∀{l:List RM},YM mt c l->∀r∈l,p6 (comp 60) (c.at (r.d mt)) (m4 (mt r.i r.j))=some r.m.body
 |_::_,h,r,hr=>(ay.mp hr).elim (λz=>z▸h.1) (YM.get h.2 r)
theorem PF.get:∀{l:List RF},PF tp K l->∀r∈l,∃f fd,PySem.W.nsIn K mainGlobals r.nm=some (some (.ref f))/\nE K r.nm r.nm (tp r.i) f fd
 |_::_,h,r,hr=>(ay.mp hr).elim (λz=>z▸h.1) (PF.get h.2 r)
theorem PM.get:∀{l:List RM},PM mt K l->∀r∈l,∃C f fd,PySem.W.nsIn K mainGlobals r.cl=some (some (.ref C))/\Meth K C r.nm f/\nE K r.nm r.qn (mt r.i r.j) f fd
 |_::_,h,r,hr=>(ay.mp hr).elim (λz=>z▸h.1) (PM.get h.2 r)
theorem PC.get:∀{l:List (Str×Nat)},PC K l->∀r∈l,∃C,PySem.W.nsIn K mainGlobals r.1=some (some (.ref C))/\ie K C/\PySem.W.makesIn K C=true/\PySem.W.keepIn K (.ref C)=true
 |_::_,h,r,hr=>(ay.mp hr).elim (λz=>z▸h.1) (PC.get h.2 r)
theorem PA.get:∀{l:List (Str×Str)},PA K l->∀r∈l,∃C,PySem.W.nsIn K mainGlobals r.2=some (some (.ref C))/\PySem.W.findIn K (.ref C) r.1=some none
 |_::_,h,r,hr=>(ay.mp hr).elim (λz=>z▸h.1) (PA.get h.2 r)
theorem PB.get:∀{l:List Str},PB K l->∀r∈l,PySem.W.nsIn K mainGlobals r=some none
 |_::_,h,r,hr=>(ay.mp hr).elim (λz=>z▸h.1) (PB.get h.2 r)
theorem PX.get:∀{l:List Str},PX K l->∀r∈l,∃C,PySem.W.nsIn K mainGlobals r=some (some (.ref C))/\PySem.W.excIn K C [.type "ValueError",.type "Exception",.type "BaseException",.type "object"] "ValueError.__new__"=true
 |_::_,h,r,hr=>(ay.mp hr).elim (λz=>z▸h.1) (PX.get h.2 r)
theorem BF.get:∀{l:List RF},BF tp l->∀r∈l,∀(kV doc pm:Value) (an:Option Addr) (eU ct:Value) (us:List Value),us.length=(r.N.take r.k).length->bindArgs (PySem.W.fnOf r.nm r.nm (x6 (tp r.i)) (m4 (tp r.i)) (k9 (tp r.i)) .none kV doc pm an eU ct) ⟨us,[]⟩=pure ((r.N.take r.k).zip us)
 |_::_,h,r,hr=>(ay.mp hr).elim (λz=>z▸h.1) (BF.get h.2 r)
theorem BM.get:∀{l:List RM},BM mt l->∀r∈l,∀(kV doc pm:Value) (an:Option Addr) (eU ct:Value) (us:List Value),us.length=(r.N.take r.k).length->bindArgs (PySem.W.fnOf r.nm r.qn (x6 (mt r.i r.j)) (m4 (mt r.i r.j)) (k9 (mt r.i r.j)) .none kV doc pm an eU ct) ⟨us,[]⟩=pure ((r.N.take r.k).zip us)
 |_::_,h,r,hr=>(ay.mp hr).elim (λz=>z▸h.1) (BM.get h.2 r)
end
def tO(N P:List Str)(sc:Scope):Bool:=decide (sc.kind=.function)&&!sc.isCoroutine&&!sc.isGenerator&&decide N.Nodup&&decide (N.take P.length=P)&&P.all (λx=>decide (sc.names.lookup x=some .local)||decide (sc.names.lookup x=some .cell))&&sc.names.all λy=>decide (y.2≠.free)
theorem ED{N P:List Str}{sc:Scope}(h:tO N P sc=true):gQ N P sc:=by
 unfold tO at h;simp only[Bool.and_eq_true,decide_eq_true_eq,Bool.not_eq_true',List.all_eq_true,Bool.or_eq_true] at h;obtain⟨⟨⟨⟨⟨⟨h1,h2⟩,h3⟩,h4⟩,h5⟩,h6⟩,h7⟩:=h;exact⟨h1,h2,h3,h4,h5,h6,h7⟩
theorem SM{h₀:Heap}{mg:Str->Option Value}{BJ:List Value}{newId:String}(X:K.In h₀)(G:h₀.Ns mainGlobals mg)(e:PySem.W.nsIn K mainGlobals x=some (some (.ref C)))(q:PySem.W.excIn K C BJ newId=true):PyProof.Rows.OwnCls x C BJ newId mg h₀:=by
 refine⟨bJ X G e,?_⟩;unfold PySem.W.excIn at q;split at q
 ·rename_i dd cd sl ho;split at q
  ·rename_i C' bm k0 k1 k2 k3 n k5 hm hs;simp only[Bool.and_eq_true,beq_iff_eq,Bool.not_eq_true'] at q;obtain⟨⟨⟨⟨⟨z1,z2⟩,rj⟩,ht⟩,bz⟩,tU⟩:=q;subst z1;subst z2;obtain⟨nm,bs,mro,ns,qn,hd,sn,sub,ab,col,del⟩:=cd;dsimp only at hm rj bz tU;subst hm rj;have GY:sl=#[k0,k1,k2,k3,some (.builtin n),k5]:=by
    obtain⟨l⟩:=sl;simp only at hs;rw[hs]
   subst GY;exact⟨bm,ns,nm,qn,bs,hd,sn,sub,ab,col,dd,k0,k1,k2,k3,k5,_,X _ _ ho,.of_isNs (PySem.W.isNs_of_in X bz),PySem.W.nsMap_none_of_in X bz tU,PySem.W.tail_of_in X ht⟩
  ·cases q
 ·cases q
def P2(K:PySem.W.Frag)(x:Str):Addr:=match PySem.W.nsIn K mainGlobals x with
 |some (some (.ref C))=>C
 |_=>0
def EU(K:PySem.W.Frag)(exc:List Str):Bool:=exc.all λx=>exc.all λy=>decide (PySem.W.exmOne K (.ref (P2 K x)) (.ref (P2 K y))=some (decide (x=y\/y="MintError")))
theorem Rj{exc:List Str}(h:EU K exc=true){y:Str}{C':Addr}(hx:exc.contains x=true)(hy:exc.contains y=true)(hC:m7 K x C)(wR:m7 K y C'):PySem.W.exmOne K (.ref C) (.ref C')=some (decide (x=y\/y="MintError")):=by
 have h1:=bZ.mp h x (by simpa using hx);have h2:=aS (bZ.mp h1 y (by simpa using hy));have e1:P2 K x=C:=by unfold P2;rw[show PySem.W.nsIn K mainGlobals x=_ from hC]
 have e2:P2 K y=C':=by unfold P2;rw[show PySem.W.nsIn K mainGlobals y=_ from wR]
 rw[e1,e2] at h2;exact h2
theorem yw{α:Type}{f:α->Nat}:∀{l:List α},(l.map f).Nodup->∀r∈l,l.find? (λx=>Nat.beq (f x) (f r))=some r
 |y::l,nd,r,hr=>by
  rw[aW,dQ] at nd;rcases ay.mp hr with rfl|hr
  ·rw[List.find?_cons_of_pos];exact Nat.beq_refl _
  ·rw[List.find?_cons_of_neg]
   ·exact yw nd.2 r hr
   ·intro z;exact nd.1 (aF.mpr ⟨r,hr,(gS z).symm⟩)
theorem Lg{α β:Type}{f:α->Nat}{g:β->Nat}{l:List α}{r:β}(h:g r∉l.map f):l.find? (λx=>Nat.beq (f x) (g r))=none:=by
 rw[List.find?_eq_none];intro x hx z;exact h (aF.mpr ⟨x,hx,gS z⟩)
section
variable{w:World}{h₀:Heap}{mg:Str->Option Value}{c:f6}{F:List RF}{M:List RM}{tp:Nat->Stmt}{mt:Nat->Nat->Stmt}
structure jT(K:PySem.W.Frag)(c:f6)(F:List RF)(M:List RM)(tp:Nat->Stmt)(mt:Nat->Nat->Stmt):Prop where
 qF:PF tp K F
 qM:PM mt K M
 qC:PC K c.cls
 qA:PA K c.lO
 qB:PB K c.blt
 qX:PX K c.exc
 xm:EU K c.exc=true
structure jS(c:f6)(F:List RF)(M:List RM)(tp:Nat->Stmt)(mt:Nat->Nat->Stmt):Prop where
 cf:c.fns=F.map λr=>(r.nm,r.id)
 cm:c.lG=M.map λr=>(r.nm,r.cl,r.id)
 ci:c.cls.all (λy=>M.any λr=>decide (r.cl=y.1)&&decide (r.nm="__init__")&&Nat.beq r.id y.2)=true
 nd:(F.map (·.id)++M.map (·.id)).Nodup
 sF:F.all (λr=>tO r.N (r.N.take r.k) (k9 (tp r.i))&&decide (r.m.ar=(r.N.take r.k).length)&&decide (r.m.n=r.N.length))=true
 sM:M.all (λr=>tO r.N (r.N.take r.k) (k9 (mt r.i r.j))&&decide (r.m.ar=(r.N.take r.k).length)&&decide (r.m.n=r.N.length))=true
 oF:YF tp c F
 oM:YM mt c M
 bF:BF tp F
 bM:BM mt M
theorem Fu(I:jT K c F M tp mt)(X:jS c F M tp mt)(r:RF)(hr:r∈F):∃f fd,iE K c (r.d tp) r.m f fd/\PySem.W.nsIn K mainGlobals r.nm=some (some (.ref f))/\pO F M r.id=some r.m:=by
 obtain⟨f,fd,a,q⟩:=I.qF.get r hr;have s:=bZ.mp X.sF r hr;simp only[Bool.and_eq_true,decide_eq_true_eq] at s;have o:=X.oF.get r hr;refine⟨f,fd,⟨q,q.binds (X.bF.get r hr),ED s.1.1,o,s.1.2,s.2⟩,a,?_⟩;unfold pO;rw[yw (f:=(·.id)) (fU.mp X.nd).1 r hr]
theorem Fv(I:jT K c F M tp mt)(X:jS c F M tp mt)(r:RM)(hr:r∈M):∃C f fd,iE K c (r.d mt) r.m f fd/\PySem.W.nsIn K mainGlobals r.cl=some (some (.ref C))/\Meth K C r.nm f/\pO F M r.id=some r.m:=by
 obtain⟨C,f,fd,a,q1,q⟩:=I.qM.get r hr;have s:=bZ.mp X.sM r hr;simp only[Bool.and_eq_true,decide_eq_true_eq] at s;have o:=X.oM.get r hr;refine⟨C,f,fd,⟨q,q.binds (X.bM.get r hr),ED s.1.1,o,s.1.2,s.2⟩,a,q1,?_⟩;have nd:=fU.mp X.nd;unfold pO;rw[Lg (f:=λr:RF=>r.id) (g:=λr:RM=>r.id) (r:=r) (λz=>nd.2.2 _ z _ (aF.mpr ⟨r,hr,rfl⟩) rfl),yw (f:=λr:RM=>r.id) nd.2.1 r hr]
 rfl
theorem Ky(I:jT K c F M tp mt)(Y:jS c F M tp mt)(X:K.In h₀)(G:h₀.Ns mainGlobals mg)(con:∀x d,c.con.lookup x=some d->∃v u,mg x=some u/\RelV v u/\∀ρ H,d6 K ρ H d v)(ot:∀x kvs,c.gd.lookup x=some kvs->∃A vs,mg x=some (.ref A)/\sv K w.params A vs/\ny K kvs vs):lE w K mg c (pO F M):=by
 refine⟨λx i hx=>?_,λx i hx=>?_,λx y i C hx hC=>?_,λf y C hx hC=>?_,con,λx hx=>?_,λx hx=>?_,λx y C C' hx hy hC wR=>Rj I.xm hx hy hC wR,ot⟩
 ·have hm:=aH hx;rw[Y.cf] at hm;obtain⟨r,hr,e⟩:=aF.mp hm;cases e;obtain⟨f,fd,O,a,t⟩:=Fu I Y r hr;exact⟨_,_,f,fd,t,O,bJ X G a⟩
 ·have hm:=aH hx;have h1:=bZ.mp Y.ci _ hm;obtain⟨r,hr,e⟩:=gx.mp h1;simp only[Bool.and_eq_true,decide_eq_true_eq] at e;obtain⟨⟨e1,e2⟩,e3⟩:=e;have e3:=gS e3;obtain⟨C,f,fd,O,a,q,t⟩:=Fv I Y r hr;obtain⟨C',a',hc,mk,kp⟩:=I.qC.get _ hm;rw[e1] at a;cases a.symm.trans a';rw[e2] at q;rw[e3] at t;exact⟨C,_,_,f,fd,t,O,bJ X G a,a,hc,⟨mk,q.at_,q.fn,kp⟩⟩
 ·rw[Y.cm] at hx;obtain⟨r,hr,e⟩:=aF.mp hx;cases e;obtain⟨C',f,fd,O,a,q,t⟩:=Fv I Y r hr;cases a.symm.trans hC;exact⟨_,_,f,fd,t,O,q⟩
 ·obtain⟨C',a,q⟩:=I.qA.get _ hx;cases a.symm.trans hC;exact q
 ·exact PySem.W.mg_none_of X G (I.qB.get x (by simpa using hx))
 ·obtain⟨C,a,q⟩:=I.qX.get x (by simpa using hx);exact⟨_,bJ X G a,a,λbase kU rP=>⟨_,_,_,_,SM kU rP a q,PySem.F.excBase_ValueError⟩⟩
end
end M
namespace M
open PySem L2
variable{g g':G}{i n k a b m p hd cl lc lf qc qf gv lr q:Nat}{o o':O}{j f v u:Int}{P:eG}{Q:KD}{E:KX}{N:Ends}{ms ns ds:List Int}{l:List Nat}{α:Type}{c:d8}{x:Str}{y e dd:D}{kb:Bool->Prop}{cs:List d8}{Z:S}{w:RW}{hs:Hs}{fs:Fs}{z0 z1 z4 z5:Option D}
set_option hygiene false
local macro_rules|`(tactic|walk_at"w1")=>`(tactic|with_reducible first|refine yf ?_|refine Cu ?_|refine Cv ?_|refine QU ?_|refine KN ?_|refine QX ?_|refine Fz ?_|refine KQ ?_|refine Ct ?_|refine ye ?_|refine vD ?_|(refine w_var (d:=?_) ?_ ?_;rotate_left;·with_unfolding_all rfl)|refine w_lit ?_|refine V8 ?_|refine vh ?_|refine OR ?_|refine EM ?_|refine MW ?_|refine w_and ?_|refine w_or ?_|refine w_not ?_|refine w_ite ?_|refine yd ?_|refine KO ?_|refine MX ?_|refine uA ?_|refine M8 ?_|refine KR ?_|refine QV ?_|refine KS ?_|refine R9 ?_|refine Cw ?_|refine OT ?_|refine OU ?_|refine QR ?_|refine Nn ?_|refine Nm ?_|refine Nl ?_|refine Nk ?_|refine OY ?_|refine BS ?_|refine OX ?_|refine Ph ?_|refine OZ ?_|refine Pa ?_|refine Pc ?_|refine Pb ?_|refine Pe ?_|refine Pf ?_|refine Pd ?_|refine oN ?_|refine Bw ?_|refine Bv ?_|refine Bt ?_|refine Bu ?_|refine Bs ?_|refine zS ?_|refine uN ?_|refine IE ?_|refine jD ?_|refine U1 ?_|refine CD ?_|refine ND ?_|refine AI ?_|refine vI ?_|refine Kf ?_|refine Ke ?_|refine Aw ?_|refine PQ ?_|refine Ao ?_)
local macro_rules|`(tactic|walk_at"w2")=>`(tactic|repeat(with_reducible first|walk_at "w1"|refine zq (by simp) ?_|refine sH (by simp) ?_|refine Q7 (a7 (by assumption)) (by with_unfolding_all rfl) ?_|refine pV (a7 (by assumption)) ?_|refine uf (by unfold mK;decide) ?_))
local macro_rules|`(tactic|walk_at"w3")=>`(tactic|repeat(with_reducible first|walk_at "w1"|refine zq (by simp) ?_|refine sH (by simp) ?_|refine Q7 (a7 (by assumption)) (by with_unfolding_all rfl) ?_|refine pV (a7 (by assumption)) ?_|refine uf (by unfold mK;decide) ?_|refine And.intro (show List.length _ <= 1000 from by simp) ?_|refine yE (by with_unfolding_all rfl) ?_|refine o8 ?_|refine nA (by with_unfolding_all rfl) ?_))
local macro_rules|`(tactic|walk_at"")=>`(tactic|repeat(with_reducible first|walk_at "w1"|refine MY ?_|refine QW ?_|refine KP ?_|refine Br ?_|refine Aq ?_|refine Ap ?_|refine max2 ?_|refine min2 ?_|refine Pu ?_|refine N8 ?_|refine Ie ?_|refine Bm ?_|refine zq (by simp) ?_|refine sH (by simp) ?_|refine Q7 (a7 (by assumption)) (by with_unfolding_all rfl) ?_|refine pV (a7 (by assumption)) ?_|refine uf (by unfold mK;decide) ?_|refine And.intro (show List.length _ <= 1000 from by simp) ?_|refine yE (by with_unfolding_all rfl) ?_|refine o8 ?_|refine nA (by with_unfolding_all rfl) ?_|refine And.intro (vQ (by assumption)) ?_|refine And.intro (vP (by assumption)) ?_|refine And.intro (GO (by assumption)) ?_|refine T5 (by decide) ?_|refine zf (by decide) (by decide) ?_|refine AL ?_))
set_option hygiene true
abbrev cy(a:ME):ME:=.cons a .nil
abbrev dg(a b:ME):ME:=.cons a (.cons b .nil)
abbrev dE(a b c:ME):ME:=.cons a (.cons b (.cons c .nil))
abbrev mh(a b c d:ME):ME:=.cons a (.cons b (.cons c (.cons d .nil)))
abbrev Aj(a b c d e:ME):ME:=.cons a (.cons b (.cons c (.cons d (.cons e .nil))))
abbrev xA(a b c d e f:ME):ME:=.cons a (.cons b (.cons c (.cons d (.cons e (.cons f .nil)))))
abbrev Bj(a b c d e f g:ME):ME:=.cons a (.cons b (.cons c (.cons d (.cons e (.cons f (.cons g .nil))))))
abbrev cA(o:PySem.CmpOp)(a b:ME):ME:=.dA (.prim (.cmp o) (.cons a (.cons b .nil)))
abbrev br(a b:ME):ME:=.prim .ix (.cons a (.cons b .nil))
abbrev aR(a:Int):ME:=.lit (.int a)
abbrev bQ(a:PySem.Str):ME:=.lit (.str a)
abbrev cg(p:Pr)(a:ME):ME:=.prim p (.cons a .nil)
abbrev bN(p:Pr)(a b:ME):ME:=.prim p (.cons a (.cons b .nil))
abbrev ak:ME:=.var 0
abbrev aD:ME:=.var 1
abbrev aO:ME:=.var 2
abbrev bo:ME:=.var 3
abbrev cC:ME:=.var 4
abbrev eK:ME:=.var 5
abbrev fJ:ME:=.var 6
abbrev jk:ME:=.var 7
abbrev nW:ME:=.var 8
abbrev nV:ME:=.var 9
def M6:aM:=⟨2,5,(.seq (.ifs (.dk (cA .Lt (br ak (aR 2)) aD) (cA .Lt (br ak (aR 1)) (cg .len (br ak (aR 0))))) (.seq (.set 2 (br (br ak (aR 0)) (br ak (aR 1)))) (.seq (.cF ak (aR 1) (bN (.bin .Add) (br ak (aR 1)) (aR 1))) (.seq (.cF ak (aR 2) (aR 0)) (.seq (.ifs (cA .GtE aO (bN (.bin .Pow) (aR 10) (aR 18))) (.seq (.cF ak (aR 2) aO) .pass) (.seq (.cF ak (aR 3) (bN (.bin .Mod) (bN (.bin .Add) (bN (.bin .Add) (bN (.bin .Mult) (br ak (aR 3)) (aR 48271)) (bN (.bin .Mult) (bN (.bin .Mod) aO (aR 2147483629)) (aR 69621))) (aR 12345)) (aR 2147483647))) .pass)) .pass)))) .pass) (.seq (.ifs (cA .GtE (br ak (aR 2)) aD) (.seq (.set 3 (bN (.bin .Mod) (br ak (aR 2)) aD)) (.seq (.cF ak (aR 2) (bN (.bin .FloorDiv) (br ak (aR 2)) aD)) (.seq (.ret bo) .pass))) .pass) (.seq (.set 4 (br ak (aR 3))) (.seq (.cF ak (aR 3) (bN (.bin .Mod) (bN (.bin .Add) (bN (.bin .Add) (bN (.bin .Mult) (bN (.bin .Mod) (bN (.bin .Mult) cC cC) (aR 2147483629)) (aR 5)) (bN (.bin .Mult) cC (aR 16811))) (aR 2531011)) (aR 2147483647))) (.seq (.ret (bN (.bin .Mod) (bN (.bin .Add) (bN (.bin .FloorDiv) (br ak (aR 3)) (aR 59)) (bN (.bin .Mult) (bN (.bin .Mod) (br ak (aR 3)) (aR 8191)) (aR 31))) aD)) .pass)))))⟩
def pL:aM:=⟨1,2,(.seq (.set 1 (.call 4 (dg ak (bN (.bin .Pow) (aR 10) (aR 9))))) (.seq (.ifs (cA .Eq (.call 4 (dg ak (aR 2))) (aR 0)) (.seq (.set 1 (bN (.bin .Add) aD (bN (.bin .Pow) (aR 10) (aR 25)))) .pass) .pass) (.seq (.ifs (cA .Eq (.call 4 (dg ak (aR 2))) (aR 0)) (.seq (.ret (bN (.bin .Sub) (cg (.un .USub) (aR 1)) aD)) .pass) .pass) (.seq (.ret aD) .pass))))⟩
structure j4(g:G)(d:Nat):Prop where
 ex:∃(s:Nat) (p b r:Int) (xs:List Int),g[d]?=some (.lst [.ref s,.int p,.int b,.int r])/\g[s]?=some (.lst (xs.map .int))/\s<d/\0<=p/\0<=b/\0<=r/\r<2147483647
structure Gr(d:Nat)(g g':G):Prop where
 len:g.length<=g'.length
 old:∀i,i≠d->i<g.length->g'[i]?=g[i]?
theorem Gr.refl(d:Nat)(g:G):Gr d g g:=⟨aj _,λ_ _ _=>rfl⟩
theorem Gr.trans{d:Nat}{g g1 g2:G}(a:Gr d g g1)(b:Gr d g1 g2):Gr d g g2:=⟨aL a.len b.len,λi h1 h2=>(b.old i h1 (aq h2 a.len)).trans (a.old i h1 h2)⟩
theorem Gr.set(d:Nat)(g:G)(o:O):Gr d g (g.set d o):=⟨by simp,λi h1 h2=>aK (ba h1)⟩
theorem Gr.snoc(d:Nat)(g:G)(o:O):Gr d g (g++[o]):=⟨by simp,λi h1 h2=>aE h2⟩
theorem Gr.at{d:Nat}(h:Gr d g g')(hi:i≠d)(e:g[i]?=some o):g'[i]?=some o:=(h.old i hi (az.mp e).1).trans e
theorem v9(h:g[i]?=some o):i<g.length:=(az.mp h).1
theorem j4.lt{d:Nat}(h:j4 g d):d<g.length:=by
 obtain⟨_,_,_,_,_,e,_⟩:=h.ex;exact v9 e
theorem j4.snoc{d:Nat}(h:j4 g d)(o:O):j4 (g++[o]) d:=by
 obtain⟨s,p,b,r,xs,e1,e2,q⟩:=h.ex;exact⟨s,p,b,r,xs,by rw[aE (v9 e1)];exact e1,by rw[aE (v9 e2)];exact e2,q⟩
def z8:MS->MS
 |.seq _ b=>b
 |x=>x
theorem Rf{i:Int}(h1:-(2 ^ 64)<i)(h2:i<2 ^ 64):oI i j:=.inl ⟨h1,h2⟩
theorem sQ{i:Int}(h1:-(2 ^ 64)<j)(h2:j<2 ^ 64):oI i j:=.inr ⟨h1,h2⟩
theorem Td{d:Nat}{n:Int}{c2:Option D}(hN:N.rt=Q)(D0:j4 g d)(hn:0<n)(mB:n<1073741824)(h:∀r g',0<=r->r<n->j4 g' d->Gr d g g'->Q (.int r) g'):wpS P (z8 M6.body) N [some (.ref d),some (.int n),c2,none,none] g E:=by
 obtain⟨s,p,b,r,xs,e1,e2,mx,hp,hb,hr,jO⟩:=D0.ex;have dn:=v9 e1;subst hN;dsimp[M6,z8];walk_at "w2";refine if2 (λc=>?_) (λc=>?_)
 ·walk_at "w2";refine T5 hn ?_;walk_at "w2";refine BK ⟨hn,mB⟩ ?_;walk_at "w2";refine S1 e1 (by with_unfolding_all rfl) ?_;walk_at "w2";refine h _ _ (gN _ (by omega)) (fH _ hn) ⟨s,p,b / n,r,xs,?_,?_,mx,hp,Int.ediv_nonneg hb (by omega),hr,jO⟩ (Gr.set d g _)
  ·rw[aU dn];rfl
  ·rw[aK (bU mx)];exact e2
 ·walk_at "w2";have Ay:-(2 ^ 64)<r/\r<2 ^ 64:=⟨by omega,by omega⟩
  refine pQ (Rf Ay.1 Ay.2) ?_;walk_at "w2";refine T5 (by decide) ?_;walk_at "w2";refine pQ (sQ (by decide) (by decide)) ?_;walk_at "w2";refine pQ (sQ (by decide) (by decide)) ?_;walk_at "w2";refine T5 (by decide) ?_;walk_at "w2";refine S1 e1 (by with_unfolding_all rfl) ?_;generalize qP:(r*r % 2147483629*5+r*16811+2531011) % 2147483647=r';have q0:0<=r':=by rw[<- qP];exact gN _ (by decide)
  have q1:r'<2147483647:=by rw[<- qP];exact fH _ (by decide)
  have Ip:(g.set d (.lst [.ref s,.int p,.int b,.int r']))[d]?=some (.lst [.ref s,.int p,.int b,.int r']):=aU dn;show wpS P _ _ _ (g.set d (.lst [.ref s,.int p,.int b,.int r'])) E;walk_at "w2";refine BK ⟨by decide,by decide⟩ ?_;walk_at "w2";refine T5 (by decide) ?_;walk_at "w2";refine pQ (sQ (by decide) (by decide)) ?_;walk_at "w2";refine T5 hn ?_;walk_at "w2";refine h _ _ (gN _ (by omega)) (fH _ hn) ⟨s,p,b,r',xs,Ip,?_,mx,hp,hb,q0,q1⟩ (Gr.set d g _);rw[aK (bU mx)];exact e2
theorem j9{T:Nat->Option aM}(hT:T 4=some M6){d:Nat}{n:Int}(D0:j4 g d)(hn:0<n)(mB:n<1073741824)(h:∀r g',0<=r->r<n->j4 g' d->Gr d g g'->Q (.int r) g'):b0 T (k+1) 4 [.ref d,.int n] g Q E:=by
 obtain⟨s,p,b,r,xs,e1,e2,mx,hp,hb,hr,jO⟩:=D0.ex;have dn:=v9 e1;refine call_of hT rfl ?_;have tail:∀(g':G) (c2:Option D),j4 g' d->Gr d g g'->wpS (b0 T k) (z8 M6.body) ⟨λ_ g'=>Q .aX g',Q,λ_ _=>False,λ_ _=>False⟩ [some (.ref d),some (.int n),c2,none,none] g' E :=
  λg' c2 D1 gr=>Td rfl D1 hn mB λr g2 a b c e=>h r g2 a b c (gr.trans e)
 dsimp[M6,b9,List.replicate];walk_at "w2";refine if2 (λc=>?_) (λc=>?_)
 ·walk_at "w2";refine if2 (λc'=>?_) (λc'=>?_)
  ·walk_at "w2";have fL:p.toNat<xs.length:=by
    rw[av] at c';omega
   have ea:iu (xs.map D.int) p=some (.int xs[p.toNat]):=by
    have:=V5 (xs:=xs.map D.int) (j:=p.toNat) (v:=.int xs[p.toNat]) (by rw[aA,aC fL];rfl)
    rwa [show((p.toNat:Nat):Int)=p by omega] at this
   refine Q7 (a7 e2) ea ?_;generalize xs[p.toNat]=cell;walk_at "w2";refine S1 e1 (by with_unfolding_all rfl) ?_;have f1:(g.set d (.lst [.ref s,.int (p+1),.int b,.int r]))[d]?=some (.lst [.ref s,.int (p+1),.int b,.int r]):=aU dn;show wpS (b0 T k) _ _ _ (g.set d (.lst [.ref s,.int (p+1),.int b,.int r])) E;walk_at "w2";refine S1 f1 (by with_unfolding_all rfl) ?_;rw[jA];have f2:(g.set d (.lst [.ref s,.int (p+1),.int 0,.int r]))[d]?=some (.lst [.ref s,.int (p+1),.int 0,.int r]):=aU dn;show wpS (b0 T k) _ _ _ (g.set d (.lst [.ref s,.int (p+1),.int 0,.int r])) E;walk_at "w2";refine if2 (λc2=>?_) (λc2=>?_)
   ·walk_at "w2";refine S1 f2 (by with_unfolding_all rfl) ?_;rw[jA];refine tail _ _ ⟨s,p+1,cell,r,xs,aU dn,by rw[aK (bU mx)];exact e2,mx,by omega,?_,hr,jO⟩ (Gr.set d g _);have:(10:Int) ^ (18:Int).toNat<=cell:=c2;have Bi:(0:Int)<=10 ^ (18:Int).toNat:=by decide
    omega
   ·walk_at "w2";refine pQ (sQ (by decide) (by decide)) ?_;walk_at "w2";refine T5 (by decide) ?_;walk_at "w2";refine pQ (sQ (by decide) (by decide)) ?_;walk_at "w2";refine T5 (by decide) ?_;walk_at "w2";refine S1 f2 (by with_unfolding_all rfl) ?_;rw[jA];exact tail _ _ ⟨s,p+1,0,_,xs,aU dn,by rw[aK (bU mx)];exact e2,mx,by omega,by decide,gN _ (by decide),fH _ (by decide)⟩ (Gr.set d g _)
  ·walk_at "w1";exact tail _ _ D0 (Gr.refl _ _)
 ·walk_at "w1";walk_at "w1";exact tail _ _ D0 (Gr.refl _ _)
theorem Rk{T:Nat->Option aM}(hT:T 4=some M6)(HG:T 5=some pL){d:Nat}(D0:j4 g d)(h:∀r g',j4 g' d->Gr d g g'->Q (.int r) g'):b0 T (k+2) 5 [.ref d] g Q E:=by
 refine call_of HG rfl ?_;dsimp[pL,b9,List.replicate];walk_at "w2";refine j9 hT D0 (by decide) (by decide) λr1 g1 _ _ D1 G1=>?_;walk_at "w2";refine j9 hT D1 (by decide) (by decide) λr2 g2 _ _ D2 G2=>?_;walk_at "w2";have FW:=G1.trans G2;have last:∀(x:Int),wpS (b0 T (k+1)) (z8 (z8 pL.body)) ⟨λ_ g'=>Q .aX g',Q,λ_ _=>False,λ_ _=>False⟩ [some (.ref d),some (.int x)] g2 E:=λx=>by
  dsimp[pL,z8];walk_at "w2";refine j9 hT D2 (by decide) (by decide) λr3 g3 _ _ D3 G3=>?_;walk_at "w2";refine if2 (λc=>?_) (λc=>?_)
  ·walk_at "w2";exact h _ _ D3 (FW.trans G3)
  ·walk_at "w2";exact h _ _ D3 (FW.trans G3)
 refine if2 (λc=>?_) (λc=>?_)
 ·refine yf ?_;refine Cv ?_;refine V8 ?_;walk_at "w1";refine V8 ?_;walk_at "w1";walk_at "w1";refine uf (by unfold mK;decide) ?_;walk_at "w1";exact last _
 ·exact last _
def yZ:aM:=⟨1,1,(.seq (.ret (.dk (bN .isin ak (.lit (.ty "int"))) (.cJ (bN .isin ak (.lit (.ty "bool")))))) .pass)⟩
def T7:aM:=⟨3,3,(.seq (.ret (.dk (.call 38 (cy ak)) (.chain .LtE .LtE aD ak aO))) .pass)⟩
structure NF(T:Nat->Option aM):Prop where
 nf:T 1=some T7
 is:T 38=some yZ
def E9:aM:=⟨1,3,(.seq (.set 1 (aR 0)) (.seq (.dU (.one 2) (.ei ak) (.seq (.ifs (.cJ (.dA (.call 1 (dE aO aD (aR 7))))) (.seq (.ret (.lit (.bl false))) .pass) .pass) (.seq (.set 1 (bN (.bin .Add) aO (aR 1))) .pass))) (.seq (.ret (.lit (.bl true))) .pass)))⟩
def uv:aM:=⟨1,1,(.seq (.ret (.prim .lst (mh (cg .list (bN (.jg false true) ak (aR 63))) (aR 0) (aR 0) (aR 29)))) .pass)⟩
def sW:aM:=⟨1,1,(.seq (.ret (.dk (bN .isin ak (.lit (.ty "int"))) (.cJ (bN .isin ak (.lit (.ty "bool")))))) .pass)⟩
def A6:aM:=⟨2,2,(.seq (.ifs (cA .Is aD (.lit .aX)) (.seq (.ret (bN (.cmp .Is) ak (.lit .aX))) .pass) .pass) (.seq (.ifs (.dA (bN .isin aD (.lit (.ty "bool")))) (.seq (.ret (.dk (bN .isin ak (.lit (.ty "bool"))) (bN (.cmp .Eq) ak aD))) .pass) .pass) (.seq (.ifs (.dA (bN .isin aD (.lit (.ty "int")))) (.seq (.ret (.dk (.call 6 (cy ak)) (bN (.cmp .Eq) ak aD))) .pass) .pass) (.seq (.ifs (.dA (bN .isin aD (.lit (.ty "str")))) (.seq (.ret (.dk (bN .isin ak (.lit (.ty "str"))) (bN (.cmp .Eq) ak aD))) .pass) .pass) (.seq (.ifs (.gK (cA .NotEq (bN .isin aD (.lit (.ty "tuple"))) (bN .isin ak (.lit (.ty "tuple")))) (cA .NotEq (bN .isin aD (.lit (.ty "list"))) (bN .isin ak (.lit (.ty "list"))))) (.seq (.ret (.lit (.bl false))) .pass) .pass) (.seq (.ifs (cA .NotEq (cg .len ak) (cg .len aD)) (.seq (.ret (.lit (.bl false))) .pass) .pass) (.seq (.ret (cg .all (.comp [1,0] 4 (.one 3) (.fc (cg .len aD)) .no (.call 7 (dg (br aD bo) (br ak bo)))))) .pass)))))))⟩
def Q2:aM:=⟨1,1,(.seq (.ret (bN (.cmp .Eq) (cg .list ak) (.comp [0] 3 (.one 2) (.fc (aR 8)) (cA .In aO ak) aO))) .pass)⟩
theorem N3{g:G}{n:Nat}:∀ms:List Int,(ms.map D.int).mapM (rd g n)=some (ms.map PyData.int)
 |[]=>rfl
 |m::r=>by
  rw[aW,List.mapM_cons,N3 r];cases n<;>rfl
theorem lay_ints:∀ms:List Int,PyData.canLayAll0 (ms.map PyData.int)=true
 |[]=>by simp[PyData.canLayAll0]
 |m::r=>by simp[PyData.canLayAll0,PyData.canLay0,lay_ints r]
theorem DV:∀ms ns:List Int,PyData.eqvAll (ms.map PyData.int) (ns.map PyData.int)=decide (ms=ns)
 |[],[]=>by simp[PyData.eqvAll]
 |[],_::_=>by simp[PyData.eqvAll]
 |_::_,[]=>by simp[PyData.eqvAll]
 |m::r,n::q=>by
  simp only[List.map_cons,PyData.eqvAll,PyData.eqv,DV r q];by_cases h:m=n
  ·subst h;simp
  ·simp[h]
theorem Sq{i:Int}{k:Bool->Prop}(h:k (ms.any λm=>m==i)):ph g (.int i) (.tup (ms.map .int)) k:=by
 refine⟨_,.inr ⟨_,_,_,rfl,N3 ms,rfl,lay_ints ms,by simp[PyData.canLay0],rfl⟩,?_⟩;rw[List.any_map];exact h
theorem Sj{k:Bool->Prop}(ha:c8 g a=some (ms.map .int))(hb:c8 g b=some (ns.map .int))(h:k (decide (ms=ns))):pD g (.ref a) (.ref b) k:=by
 refine⟨_,.inr (.inr (.inr ⟨.list (ms.map .int),.list (ns.map .int),?_,?_,?_,?_,rfl⟩)),?_⟩
 ·simp only[rd];rw[ha];dsimp only;rw[N3];rfl
 ·simp only[rd];rw[hb];dsimp only;rw[N3];rfl
 ·simp[PyData.canLay0,lay_ints]
 ·simp[PyData.canLay0,lay_ints]
 ·simp only[PyData.eqv,DV];exact h
section
variable{T:Nat->Option aM}{d:Nat}
theorem K7(h1:NF T){i:Int}(h:Q (.bl true) g):b0 T (k+1) 38 [.int i] g Q E:=by
 refine call_of h1.is rfl ?_;dsimp[yZ,b9,List.replicate];walk_at "w2";refine fo (c:="int") (b:=true) (by decide) rfl ?_;walk_at "w2";refine fo (c:="bool") (b:=false) (by decide) rfl ?_;walk_at "w2";exact h
theorem E7(h1:NF T){i l m:Int}(h:Q (.bl (decide (l<=i)&&decide (i<=m))) g):b0 T (k+2) 1 [.int i,.int l,.int m] g Q E:=by
 refine call_of h1.nf rfl ?_;dsimp[T7,b9,List.replicate];walk_at "w2";refine K7 h1 ?_;walk_at "w2";refine if2 (λc=>?_) (λc=>?_)
 ·rw[aQ c] at h;walk_at "w2";exact h
 ·rw[aw c] at h;exact h
def gm:Int->List Int->Bool
 |_,[]=>true
 |l,x::r=>(decide (l<=x)&&decide (x<=7))&&gm (x+1) r
theorem Ei(h1:NF T)(h2:T 2=some E9)(h:Q (.bl (gm 0 ms)) g):b0 T (k+3) 2 [.tup (ms.map .int)] g Q E:=by
 refine call_of h2 rfl ?_;dsimp[E9,b9,List.replicate];walk_at "w2";refine V9 (a9 T _) (GR (a9 T _) ?_);walk_at "w2";refine⟨_,rfl,_,λi Z g'=>g'=g/\∃(l:Int) (z:Option D),Z=[some (.tup (ms.map .int)),some (.int l),z]/\gm 0 ms=gm l (ms.drop i),λ_ _ _ _=>Q8,⟨rfl,0,none,rfl,rfl⟩,λi x Z g' hx p=>?_,λZ g' p=>?_⟩
 ·obtain⟨rfl,l,z,rfl,e⟩:=p;rw[aA] at hx;cases em:ms[i]? with
  |none=>rw[em] at hx;cases hx
  |some m =>
   rw[em] at hx;cases hx;have hi:=(az.mp em).1;have ed:ms.drop i=m::ms.drop (i+1):=by
    rw[fN hi]
    congr 1
    exact(az.mp em).2
   rw[ed] at e;simp only[gm] at e;show wpS _ _ _ _ _ _;walk_at "w2";refine E7 h1 ?_;walk_at "w2";cases hc:(decide (l<=m)&&decide (m<=7)) with
   |true =>
    rw[hc,Bool.true_and] at e;show wpS _ _ _ _ _ _;walk_at "w2";exact⟨rfl,m+1,some (.int m),rfl,e⟩
   |false =>
    rw[hc,mf] at e;rw[e] at h;show wpS _ _ _ _ _ _;walk_at "w2";exact h
 ·obtain⟨rfl,l,z,rfl,e⟩:=p;rw[List.drop_eq_nil_of_le (by simp)] at e;simp only[gm] at e;rw[e] at h;show wpS _ _ _ _ _ _;walk_at "w2";exact h
theorem LR(h3:T 3=some uv)(hg:g[a]?=some (.mI (ns.map .int)))(h:∀d g',j4 g' d->g.length<=d->(∀i,i<g.length->g'[i]?=g[i]?)->Q (.ref d) g'):b0 T (k+1) 3 [.ref a] g Q E:=by
 refine call_of h3 rfl ?_;dsimp[uv,b9,List.replicate];walk_at "w2";refine EF (Su hg) ?_;walk_at "w2";refine Cf (l:=cut (ns.map D.int) none (some 63)) (a7 (by simp)) ?_;walk_at "w2";have ec:cut (ns.map D.int) none (some 63)=(cut ns none (some 63)).map D.int:=by
  unfold cut;simp[List.map_take,List.map_drop]
 refine h _ _ ⟨g.length+1,0,0,29,cut ns none (some 63),?_,?_,?_,by decide,by decide,by decide,by decide⟩ (by simp) (λi hi=>?_)
 ·simp
 ·rw[<- ec];simp
 ·simp
 ·simp[List.getElem?_append,hi,Nat.lt_of_lt_of_le hi (by omega:g.length<=g.length+1),Nat.lt_of_lt_of_le hi (by omega:g.length<=g.length+1+1)]
theorem DY(h8:T 8=some Q2)(h:∀g',Gr d g g'->(j4 g d->j4 g' d)->Q (.bl (decide (ms=((List.range 8).map λ(n:Nat)=>(n:Int)).filter λs=>ms.any λm=>m==s))) g'):b0 T (k+1) 8 [.tup (ms.map .int)] g Q E:=by
 refine call_of h8 rfl ?_;dsimp[Q2,b9,List.replicate];walk_at "w2";refine Uv (a9 T _) ?_;walk_at "w2";refine⟨8,rfl,by decide,λi ys Z g'=>g'=g++[.lst (ms.map .int)]/\ys.length<=i/\(∃z w,Z=[some (.tup (ms.map .int)),z,w])/\ys=((((List.range i).map λ(n:Nat)=>(n:Int)).filter λs=>ms.any λm=>m==s).map D.int),⟨rfl,by simp,⟨none,none,rfl⟩,rfl⟩,λi ys Z g' p=>p.2.1,λi ys Z g' hi p=>?_,λys Z g' p=>?_⟩
 ·obtain⟨rfl,hl,⟨z,w,rfl⟩,e⟩:=p;show da _ _ _ _ _ _;walk_at "w2";refine va (Sq ?_);walk_at "w2";have er:(List.range (i+1)).map (λ(n:Nat)=>(n:Int))=(List.range i).map (λ(n:Nat)=>(n:Int))++[(i:Int)]:=by rw[List.range_succ];simp
  cases hc:(ms.any λm=>m==(i:Int)) with
  |true =>
   refine jD ?_;walk_at "w2";refine⟨rfl,by simp;omega,⟨_,_,rfl⟩,?_⟩;rw[er,fG,cc,<- e];simp[hc]
  |false =>
   refine U1 ?_;refine⟨rfl,by omega,⟨_,_,rfl⟩,?_⟩;rw[er,fG,cc,<- e];simp[hc]
 ·obtain⟨rfl,hl,_,e⟩:=p;rw[e];refine uZ (Sj (ms:=ms) (a7 (by simp)) (a7 (by simp;rfl)) ?_);exact h _ ((Gr.snoc d g _).trans (Gr.snoc d _ _)) λD0=>(D0.snoc _).snoc _
end
theorem yu{β:Type}(f:α->β)(l:List α)(lo hi:Option Int):cut (l.map f) lo hi=(cut l lo hi).map f:=by
 unfold cut;simp[List.map_take,List.map_drop]
theorem Ca:∀{ms:List Int} {l:Int},ms.Pairwise (· < ·)->(∀m∈ms,l<=m/\m<=7)->gm l ms=true
 |[],_,_,_=>rfl
 |m::r,l,hp,h=>by
  obtain⟨h1,h2⟩:=cH.mp hp;have hm:=h m (by simp);simp only[gm];rw[aQ hm.1,aQ hm.2,Ca h2 λx hx=>⟨by have:=h1 x hx;omega,(h x (by simp[hx])).2⟩]
  rfl
theorem R7{l:List α}{r:Int}(h0:0<=r)(h1:r<l.length):∃v,iu l r=some v/\v∈l:=by
 have hi:r.toNat<l.length:=by omega
 refine⟨l[r.toNat],?_,dD hi⟩;have:=V5 (xs:=l) (j:=r.toNat) (v:=l[r.toNat]) (aC hi)
 rwa [show((r.toNat:Nat):Int)=r by omega] at this
section
variable{T:Nat->Option aM}
theorem Fc(h7:T 7=some A6){a b:Bool}(h:Q (.bl (a==b)) g):b0 T (k+1) 7 [.bl a,.bl b] g Q E:=by
 refine call_of h7 rfl ?_;dsimp[A6,b9,List.replicate];walk_at "w2";walk_at "w2";refine fo (c:="bool") (b:=true) (by decide) rfl ?_;walk_at "w2";refine fo (c:="bool") (b:=true) (by decide) rfl ?_;walk_at "w2";exact h
end
theorem Dt(ms:List Int):gm 0 ms=decide (ms=((List.range 8).map λ(n:Nat)=>(n:Int)).filter λs=>ms.any λm=>m==s):=by
 rw[bL,cu];constructor
 ·intro h;have key:∀(ms:List Int) (l:Int),gm l ms=true->ms.Pairwise (· < ·)/\∀m∈ms,l<=m/\m<=7:=by
   intro ms
   induction ms with
   |nil=>intro l _;exact⟨List.Pairwise.nil,by simp⟩
   |cons m r ih =>
    intro l h;simp only[gm,Bool.and_eq_true,decide_eq_true_eq] at h;obtain⟨⟨h1,h2⟩,h3⟩:=h;obtain⟨p1,p2⟩:=ih (m+1) h3;refine⟨cH.mpr ⟨λx hx=>by have:=p2 x hx;omega,p1⟩,λx hx=>?_⟩;rcases ay.mp hx with z|z
    ·subst z;exact⟨h1,h2⟩
    ·have:=p2 x z;omega
  obtain⟨p1,p2⟩:=key ms 0 h;have uniq:∀(xs ys:List Int),xs.Pairwise (· < ·)->ys.Pairwise (· < ·)->(∀z,z∈xs↔z∈ys)->xs=ys:=by
   intro xs
   induction xs with
   |nil =>
    intro ys _ _ h;cases ys with
    |nil=>rfl
    |cons y r=>exact absurd ((h y).mpr (by simp)) (by simp)
   |cons x xs ih =>
    intro ys hx hy h;cases ys with
    |nil=>exact absurd ((h x).mp (by simp)) (by simp)
    |cons y ys =>
     obtain⟨a1,a2⟩:=cH.mp hx;obtain⟨b1,b2⟩:=cH.mp hy;have Ik:x=y:=by
      rcases ay.mp ((h x).mp (by simp)) with z|z
      ·exact z
      ·rcases ay.mp ((h y).mpr (by simp)) with w|w
       ·exact w.symm
       ·have:=b1 x z;have:=a1 y w;omega
     subst Ik
     congr 1
     refine ih ys a2 b2 λz=>⟨λhz=>?_,λhz=>?_⟩
     ·rcases ay.mp ((h z).mp (by simp[hz])) with w|w
      ·subst w;exact absurd (a1 z hz) (by omega)
      ·exact w
     ·rcases ay.mp ((h z).mpr (by simp[hz])) with w|w
      ·subst w;exact absurd (b1 z hz) (by omega)
      ·exact w
  refine uniq _ _ p1 ?_ λz=>?_
  ·refine vw _ ?_
   decide
  ·simp only[List.mem_filter,List.any_eq_true,beq_iff_eq,exists_eq_right,List.mem_map,List.mem_range];refine⟨λhz=>⟨⟨z.toNat,by have:=p2 z hz;omega,by have:=p2 z hz;omega⟩,hz⟩,λhz=>hz.2⟩
 ·intro h;rw[h];refine Ca ?_ λm hm=>?_
  ·refine vw _ ?_
   decide
  ·obtain⟨hm,_⟩:=bV.mp hm;obtain⟨n,hn,rfl⟩:=aF.mp hm;have:=dt.mp hn;omega
def y9:aM:=⟨1,8,(.seq (.kJ (.many [1,2,3,4,5]) ak) (.seq (.set 6 (.dk (.call 1 (dE aD (aR 1) (aR 99))) (.call 2 (cy aO)))) (.seq (.set 7 (.dk (.call 1 (dE bo (aR 1) (aR 99))) (.call 2 (cy cC)))) (.seq (.ret (.dk fJ (.dk jk (.call 1 (dE eK (aR 0) (aR 9999)))))) .pass))))⟩
def M0:aM:=⟨1,1,(.seq (.ifs (.gK (.cJ (.dA (.chain .LtE .LtE (aR 1) (br ak (aR 0)) (aR 99)))) (.gK (.cJ (.dA (.chain .LtE .LtE (aR 1) (br ak (aR 2)) (aR 99)))) (.cJ (.dA (.chain .LtE .LtE (aR 0) (br ak (aR 4)) (aR 9999)))))) (.seq (.ret (.lit (.bl false))) .pass) .pass) (.seq (.ret (.dk (.call 8 (cy (br ak (aR 1)))) (.call 8 (cy (br ak (aR 3)))))) .pass))⟩
structure d8 where
 lo:Int
 lm:List Int
 up:Int
 um:List Int
 yr:Int
def d8.d(c:d8):D:=.tup [.int c.lo,.tup (c.lm.map .int),.int c.up,.tup (c.um.map .int),.int c.yr]
def n5(c:d8):Bool:=((decide (1<=c.lo)&&decide (c.lo<=99))&&gm 0 c.lm)&&(((decide (1<=c.up)&&decide (c.up<=99))&&gm 0 c.um)&&(decide (0<=c.yr)&&decide (c.yr<=9999)))
section
variable{T:Nat->Option aM}{d:Nat}
theorem Ef(h1:NF T)(h2:T 2=some E9)(pB:T 12=some y9)(h:Q (.bl (n5 c)) g):b0 T (k+4) 12 [c.d] g Q E:=by
 refine call_of pB rfl ?_;dsimp[y9,b9,List.replicate,d8.d];walk_at "w3";refine E7 h1 ?_;have s1:∀b:Bool,b=((decide (1<=c.lo)&&decide (c.lo<=99))&&gm 0 c.lm)->wpS (b0 T (k+3)) (z8 (z8 y9.body)) ⟨λ_ g'=>Q .aX g',Q,λ_ _=>False,λ_ _=>False⟩ [some c.d,some (.int c.lo),some (.tup (c.lm.map .int)),some (.int c.up),some (.tup (c.um.map .int)),some (.int c.yr),some (.bl b),none] g E:=by
  intro b hb;dsimp[y9,z8];walk_at "w3";refine E7 h1 ?_;have s2:∀b':Bool,b'=((decide (1<=c.up)&&decide (c.up<=99))&&gm 0 c.um)->wpS (b0 T (k+3)) (z8 (z8 (z8 y9.body))) ⟨λ_ g'=>Q .aX g',Q,λ_ _=>False,λ_ _=>False⟩ [some c.d,some (.int c.lo),some (.tup (c.lm.map .int)),some (.int c.up),some (.tup (c.um.map .int)),some (.int c.yr),some (.bl b),some (.bl b')] g E:=by
   intro b' jt;dsimp[y9,z8];have e:n5 c=(b&&(b'&&(decide (0<=c.yr)&&decide (c.yr<=9999)))):=by unfold n5;rw[hb,jt]
   rw[e] at h;walk_at "w3";cases b
   ·exact U1 h
   ·refine jD ?_;walk_at "w3";cases b'
    ·exact U1 h
    ·refine jD ?_;walk_at "w3";exact E7 h1 h
  refine uN ?_;cases hc:(decide (1<=c.up)&&decide (c.up<=99)) with
  |false=>exact U1 (s2 false (by rw[hc];rfl))
  |true =>
   refine jD ?_;walk_at "w1";walk_at "w1";walk_at "w1";walk_at "w1";exact Ei h1 h2 (s2 _ (by rw[hc];rfl))
 refine uN ?_;cases hc:(decide (1<=c.lo)&&decide (c.lo<=99)) with
 |false=>exact U1 (s1 false (by rw[hc];rfl))
 |true =>
  refine jD ?_;walk_at "w1";walk_at "w1";walk_at "w1";walk_at "w1";exact Ei h1 h2 (s1 _ (by rw[hc];rfl))
theorem Tz(h8:T 8=some Q2)(xy:T 13=some M0)(h:∀g',Gr d g g'->(j4 g d->j4 g' d)->Q (.bl (n5 c)) g'):b0 T (k+2) 13 [c.d] g Q E:=by
 refine call_of xy rfl ?_;have no:n5 c=false->Q (.bl false) g:=λe=>by
  have:=h g (Gr.refl _ _) id
  rwa [e] at this
 dsimp[M0,b9,List.replicate,d8.d];walk_at "w3";have fin:n5 c=(gm 0 c.lm&&gm 0 c.um)->wpS (b0 T (k+1)) (z8 M0.body) ⟨λ_ g'=>Q .aX g',Q,λ_ _=>False,λ_ _=>False⟩ [some c.d] g E:=λe=>by
  dsimp[M0,z8,d8.d];walk_at "w3";refine DY h8 (d:=d) λg1 G1 D1=>?_;rw[<- Dt];refine uN ?_;have h':=h;rw[e] at h';cases hl:gm 0 c.lm with
  |false =>
   rw[hl,mf] at h';exact U1 (h' g1 G1 D1)
  |true =>
   rw[hl,Bool.true_and] at h';refine jD ?_;walk_at "w3";refine DY h8 (d:=d) λg2 G2 D2=>?_;rw[<- Dt];exact h' g2 (G1.trans G2) λz=>D2 (D1 z)
 have out:n5 c=false->wpS (b0 T (k+1)) (.seq (.ret (.lit (.bl false))) .pass) ⟨λgP g1=>wpS (b0 T (k+1)) (z8 M0.body) ⟨λ_ g'=>Q .aX g',Q,λ_ _=>False,λ_ _=>False⟩ gP g1 E,Q,λ_ _=>False,λ_ _=>False⟩ [some c.d] g E:=λe=>by
  walk_at "w3";exact no e
 refine if2 (λc1=>?_) (λc1=>?_)
 ·walk_at "w3";cases c2:decide (c.lo<=99) with
  |false=>exact out (by unfold n5;rw[c2];simp)
  |true =>
   walk_at "w3";refine if2 (λc3=>?_) (λc3=>?_)
   ·walk_at "w3";cases c4:decide (c.up<=99) with
    |false=>exact out (by unfold n5;rw[c4];simp)
    |true =>
     walk_at "w3";refine if2 (λc5=>?_) (λc5=>?_)
     ·walk_at "w3";cases c6:decide (c.yr<=9999) with
      |false=>exact out (by unfold n5;rw[c6];simp)
      |true=>exact fin (by unfold n5;rw[aQ c1,c2,aQ c3,c4,aQ c5,c6];simp)
     ·walk_at "w3";exact no (by unfold n5;rw[aw c5];simp)
   ·walk_at "w3";exact no (by unfold n5;rw[aw c3];simp)
 ·walk_at "w3";exact no (by unfold n5;rw[aw c1];simp)
end
theorem j4.Oo{d x:Nat}(h:j4 g d)(hx:d<x):j4 (g.set x o) d:=by
 obtain⟨s,p,b,r,xs,e1,e2,hs,q⟩:=h.ex;exact⟨s,p,b,r,xs,by rw[aK (by omega)];exact e1,by rw[aK (by omega)];exact e2,hs,q⟩
theorem b8:(g++[o])[g.length]?=some o:=by simp
theorem uR(h:g[i]?=some o):(g++[o'])[i]?=some o:=by rw[aE (v9 h)];exact h
theorem get_set(h:g[i]?=some o):(g.set i o')[i]?=some o':=aU (v9 h)
theorem j5{j:Nat}(h:g[i]?=some o)(hn:j≠i):(g.set j o')[i]?=some o:=by rw[aK hn];exact h
def Y4:aM:=⟨1,5,(.seq (.set 1 (.prim .lst (Bj (.prim .tup .nil) (cg .tup (aR 0)) (bN .tup (aR 0) (aR 1)) (cg .tup (aR 1)) (.prim .tup (dE (aR 0) (aR 1) (aR 2))) (.prim .tup (mh (aR 0) (aR 1) (aR 2) (aR 7))) (cg .tup (aR 2))))) (.seq (.set 2 (br aD (.call 4 (dg ak (br (bN .tup (aR 4) (aR 7)) (cg .int (bN (.cmp .Eq) (.call 4 (dg ak (aR 4))) (aR 0)))))))) (.seq (.set 3 (br aD (.call 4 (dg ak (aR 5))))) (.seq (.set 4 (br (.prim .lst (xA (aR 0) (aR 0) (aR 1400) (aR 1400) (aR 1401) (aR 1))) (.call 4 (dg ak (aR 6))))) (.seq (.ret (.prim .tup (Aj (bN (.bin .Add) (aR 1) (.call 4 (dg ak (aR 3)))) aO (bN (.bin .Add) (aR 1) (.call 4 (dg ak (aR 4)))) bo cC))) .pass)))))⟩
structure kn(c:d8):Prop where
 good:n5 c=true
 l8:c.lm.length<=8
 u8:c.um.length<=8
theorem kn.mk'{lo up yr:Int}{lm um:List Int}(h1:1<=lo)(h2:lo<=99)(h3:1<=up)(h4:up<=99)(h5:0<=yr)(h6:yr<=9999)(h7:gm 0 lm=true)(h8:gm 0 um=true)(h9:lm.length<=8)(Bi:um.length<=8):kn ⟨lo,lm,up,um,yr⟩:=by
 refine⟨?_,h9,Bi⟩;simp only[n5,h7,h8,decide_eq_true h1,decide_eq_true h2,decide_eq_true h3,decide_eq_true h4,decide_eq_true h5,decide_eq_true h6]
 rfl
theorem kn.inv(h:kn c):(1<=c.lo/\c.lo<=99)/\gm 0 c.lm=true/\(1<=c.up/\c.up<=99)/\gm 0 c.um=true/\0<=c.yr/\c.yr<=9999:=by
 have:=h.good;unfold n5 at this;simp only[Bool.and_eq_true,decide_eq_true_eq] at this;obtain⟨⟨⟨a,b⟩,e⟩,⟨⟨c',d⟩,f⟩,p,q⟩:=this;exact⟨⟨a,b⟩,e,⟨c',d⟩,f,p,q⟩
def M5:List (List Int):=[[],[0],[0,1],[1],[0,1,2],[0,1,2,7],[2]]
theorem LB:∀ms∈M5,gm 0 ms=true/\ms.length<=8:=by decide
theorem Ff{r:Int}(h0:0<=r)(h7:r<7):∃ms,iu (M5.map λms=>D.tup (ms.map .int)) r=some (.tup (ms.map .int))/\gm 0 ms=true/\ms.length<=8:=by
 obtain⟨v,hv,hm⟩:=R7 (l:=M5.map λms=>D.tup (ms.map .int)) h0 (by simpa[M5] using h7);obtain⟨ms,h1,rfl⟩:=aF.mp hm;exact⟨ms,hv,LB ms h1⟩
section
variable{T:Nat->Option aM}{d:Nat}
theorem Uw(h4:T 4=some M6)(xf:T 22=some Y4)(D0:j4 g d)(h:∀c g',kn c->j4 g' d->Gr d g g'->Q c.d g'):b0 T (k+2) 22 [.ref d] g Q E:=by
 refine call_of xf rfl ?_;dsimp[Y4,b9,List.replicate];have dl:=D0.lt;walk_at"";have D1:=D0.snoc (.lst (M5.map λms=>D.tup (ms.map .int)));have G1:=Gr.snoc d g (.lst (M5.map λms=>D.tup (ms.map .int)));have e1:(g++[O.lst (M5.map λms=>D.tup (ms.map .int))])[g.length]?=some (.lst (M5.map λms=>D.tup (ms.map .int))):=b8;show b0 _ _ _ _ (g++[O.lst (M5.map λms=>D.tup (ms.map .int))]) _ _;generalize g++[O.lst (M5.map λms=>D.tup (ms.map .int))]=g1 at *;refine j9 h4 D1 (by decide) (by decide) λr g2 r0 r1 D2 G2=>?_;walk_at"";have e2:=G2.at (by omega) e1;have hn:∃n:Int,iu [D.int 4,D.int 7] (if decide (r=0)=true then 1 else 0)=some (.int n)/\0<n/\n<=7:=by
  by_cases hr:r=0
  ·exact⟨7,by rw[aQ hr];rfl,by decide,by decide⟩
  ·exact⟨4,by rw[aw hr];rfl,by decide,by decide⟩
 obtain⟨n,en,n0,n7⟩:=hn;refine nA en ?_;walk_at"";refine j9 h4 D2 n0 (by omega) λr3 g3 GB Xx D3 G3=>?_;have e3:=G3.at (by omega) e2;obtain⟨lm,el,gl,ll⟩:=Ff GB (by omega);refine Q7 (a7 e3) el ?_;walk_at"";refine j9 h4 D3 (by decide) (by decide) λr4 g4 GA Xw D4 G4=>?_;have e4:=G4.at (by omega) e3;obtain⟨um,eu,gu,lu⟩:=Ff GA (by omega);refine Q7 (a7 e4) eu ?_;walk_at"";have e5:(g4++[O.lst [.int 0,.int 0,.int 1400,.int 1400,.int 1401,.int 1]])[g4.length]?=some (.lst [.int 0,.int 0,.int 1400,.int 1400,.int 1401,.int 1]):=b8;refine j9 h4 (D4.snoc _) (by decide) (by decide) λr5 g5 Gz Gy D5 G5=>?_;have e6:=G5.at (by have:=D4.lt;omega) e5;obtain⟨v,hv,hm⟩:=R7 (l:=[D.int 0,.int 0,.int 1400,.int 1400,.int 1401,.int 1]) Gz (by simpa using Gy);have hy:∃y:Int,v=.int y/\0<=y/\y<=9999:=by
  simp only[List.mem_cons,List.mem_nil_iff,or_false] at hm;rcases hm with rfl|rfl|rfl|rfl|rfl|rfl<;>exact⟨_,rfl,by decide,by decide⟩
 obtain⟨y,rfl,y0,y1⟩:=hy;refine Q7 (a7 e6) hv ?_;walk_at"";refine j9 h4 D5 (by decide) (by decide) λr6 g6 Xv Xu D6 G6=>?_;walk_at"";refine j9 h4 D6 (by decide) (by decide) λr7 g7 Xt Xs D7 G7=>?_;walk_at"";exact h ⟨1+r6,lm,1+r7,um,y⟩ _ (kn.mk' (by omega) (by omega) (by omega) (by omega) y0 y1 gl gu ll lu) D7 (G1.trans (G2.trans (G3.trans (G4.trans ((Gr.snoc _ _ _).trans (G5.trans (G6.trans G7)))))))
end
def Vn:aM:=⟨1,1,(.seq (.ifs (.cJ (.dA (.call 1 (dE ak (aR 1) (aR 9))))) (.seq (.raise "BadAnvils" (cy (bQ "there are from one to nine anvils"))) .pass) .pass) .pass)⟩
def zm:aM:=⟨2,2,(.seq (.ifs (cA .Eq (.call 4 (dg ak (aR 12))) (aR 7)) (.seq (.ret (.call 5 (cy ak))) .pass) .pass) (.seq (.ret (bN (.bin .Sub) (.call 4 (dg ak (bN (.bin .Add) aD (aR 4)))) (aR 2))) .pass))⟩
def Ly:aM:=⟨2,2,(.seq (.ret (cg .all (.comp [1] 3 (.one 2) (.ei ak) .no (bN (.cmp .In) aO ak)))) .pass)⟩
def O6:aM:=⟨1,1,(.seq (.ifs (.cJ (.dA (.call 12 (cy ak)))) (.seq (.raise "BadCoin" (cy (bQ "it is no coin"))) .pass) .pass) .pass)⟩
def T8:aM:=⟨1,2,(.seq (.ifs (cA .Gt (cg .len ak) (aR 9)) (.seq (.raise "TooMany" (cy (bQ "at most nine coins are asked about at once"))) .pass) .pass) (.seq (.dU (.one 1) (.ei ak) (.seq (.expr (.call 39 (cy aD))) .pass)) .pass))⟩
def O5:aM:=⟨1,1,(.seq (.ifs (cA .NotIn ak (.lit (.tup [(.str "lower"),(.str "upper")]))) (.seq (.raise "BadSide" (cy (bQ "a side is lower or upper"))) .pass) .pass) .pass)⟩
def yY:aM:=⟨1,1,(.seq (.expr (.call 40 (cy ak))) (.seq (.ret (bN .lB (.lit (.tup [(.tup [(.str "lower"),(.int 0)]),(.tup [(.str "upper"),(.int 2)])])) ak)) .pass))⟩
noncomputable abbrev FX(T:Nat->Option aM):Prop:=T 18=some T8/\T 39=some O6
noncomputable abbrev Ac(T:Nat->Option aM):Prop:=T 19=some yY/\T 40=some O5
structure Ex(g g':G):Prop where
 len:g.length<=g'.length
 old:∀i,i<g.length->g'[i]?=g[i]?
theorem Ex.refl(g:G):Ex g g:=⟨aj _,λ_ _=>rfl⟩
theorem Ex.trans{g g1 g2:G}(a:Ex g g1)(b:Ex g1 g2):Ex g g2:=⟨aL a.len b.len,λi h=>(b.old i (aq h a.len)).trans (a.old i h)⟩
theorem Ex.snoc(g:G)(o:O):Ex g (g++[o]):=⟨by simp,λi h=>aE h⟩
theorem Ex.at(h:Ex g g')(e:g[i]?=some o):g'[i]?=some o:=(h.old i (v9 e)).trans e
theorem Ex.gr(h:Ex g g')(d:Nat):Gr d g g':=⟨h.len,λi _ h2=>h.old i h2⟩
theorem Ex.draw{d:Nat}(h:Ex g g')(D0:j4 g d):j4 g' d:=by
 obtain⟨s,p,b,r,xs,e1,e2,q⟩:=D0.ex;exact⟨s,p,b,r,xs,h.at e1,h.at e2,q⟩
inductive p9(g:G):Nat->D->D->Prop
 |aX {n:Nat}:p9 g n .aX .aX
 |bl {n:Nat} (b:Bool):p9 g n (.bl b) (.bl b)
 |int {n:Nat} (i:Int):p9 g n (.int i) (.int i)
 |str {n:Nat} (x:Str):p9 g n (.str x) (.str x)
 |tup {n:Nat} {l m:List D} (hl:l.length=m.length) (h:∀(i:Nat) x y,l[i]?=some x->m[i]?=some y->p9 g n x y) (hz:m.length<=1000):p9 g (n+1) (.tup l) (.tup m)
 |lst {n a b:Nat} {l m:List D} (ha:g[a]?=some (.lst l)) (hb:g[b]?=some (.lst m)) (hl:l.length=m.length) (h:∀(i:Nat) x y,l[i]?=some x->m[i]?=some y->p9 g n x y) (hz:m.length<=1000):p9 g (n+1) (.ref a) (.ref b)
theorem p9.ex(e:Ex g g'){x:D}(h:p9 g n x y):p9 g' n x y:=by
 induction h with
 |aX=>exact .aX
 |bl b=>exact .bl b
 |int i=>exact .int i
 |str x=>exact .str x
 |tup hl h hz ih=>exact .tup hl ih hz
 |lst ha hb hl h hz ih=>exact .lst (e.at ha) (e.at hb) hl ih hz
section
variable{T:Nat->Option aM}
theorem Eu(h6:T 6=some sW){i:Int}(h:Q (.bl true) g):b0 T (k+1) 6 [.int i] g Q E:=by
 refine call_of h6 rfl ?_;dsimp[sW,b9,List.replicate];walk_at"";refine fo (c:="int") (b:=true) (by decide) rfl ?_;walk_at"";refine fo (c:="bool") (b:=false) (by decide) rfl ?_;walk_at"";exact h
def Fb:MS:=match A6.body with
 |.seq _ (.seq _ (.seq _ (.seq _ (.seq _ b))))=>b
 |x=>x
theorem N4(h6:T 6=some sW)(h7:T 7=some A6):∀(n:Nat) {k:Nat} {g:G} {x y:D} {Q:KD} {E:KX},p9 g n x y->(∀g',Ex g g'->Q (.bl true) g')->b0 T (k+n+2) 7 [x,y] g Q E:=by
 have qr:∀(n:Nat),(∀{k:Nat} {g:G} {x y:D} {Q:KD} {E:KX},p9 g n x y->(∀g',Ex g g'->Q (.bl true) g')->b0 T (k+n+2) 7 [x,y] g Q E) ->
   ∀{k:Nat} {g:G} {x y:D} {l m:List D} {Q:KD} {E:KX},(∀g',Ex g g'->D9 g' x=some l)->(∀g',Ex g g'->D9 g' y=some m)->l.length=m.length->m.length<=1000->(∀(i:Nat) x y,l[i]?=some x->m[i]?=some y->p9 g n x y)->(∀g',Ex g g'->Q (.bl true) g') ->
   wpS (b0 T (k+n+2)) Fb ⟨λ_ g'=>Q .aX g',Q,λ_ _=>False,λ_ _=>False⟩ [some x,some y] g E:=by
  intro n ih k g x y l m Q E hx hy hl hz hs hQ;have len:∀(z:D) (l:List D) (g':G) (Q':KD),D9 g' z=some l->Q' (.int l.length) g'->cG .len [z] g' Q':=λz l g' Q' e q=>⟨_,_,⟨rfl,.inl ⟨z,l,rfl,e,rfl⟩⟩,q⟩
  dsimp[Fb,A6];refine Cu (Ct (Cw (V8 (vh (w_var rfl (len _ _ _ _ (hx g (Ex.refl g)) ?_))))));refine vh (w_var rfl (len _ _ _ _ (hy g (Ex.refl g)) ?_));refine BS ?_;rw[hl,aQ rfl];walk_at"";refine sT (a9 T _) (vc (a9 T _) ?_);refine vh (w_var rfl (len _ _ _ _ (hy g (Ex.refl g)) ?_));refine⟨_,rfl,by omega,by omega,w6 0 m.length,λi ys Z g'=>∃z w,ys=List.replicate i (.bl true)/\Z=[some y,some x,z,w]/\Ex g g',by rw[U5];exact hz,λi ys Z g' p=>⟨Q8,?_⟩,⟨none,none,rfl,rfl,Ex.refl g⟩,λi z ys Z g' hz p=>?_,λys Z g' p=>?_⟩
  ·obtain⟨z,w,rfl,_⟩:=p;simp
  ·obtain⟨z,w,rfl,rfl,e⟩:=p;obtain⟨hi,rfl⟩:=U6 hz;have h1:l[i]?=some l[i]:=aC (by omega);have h2:m[i]?=some m[i]:=aC hi;have a1:iu l (0+(i:Int))=some l[i]:=by rw[qg];exact V5 h1
   have a2:iu m (0+(i:Int))=some m[i]:=by rw[qg];exact V5 h2
   show da _ _ _ _ _ _;refine R9 (jD (yd (M8 (V8 (w_var rfl (w_var rfl ⟨_,_,⟨rfl,.inl ⟨_,l,_,rfl,hx g' e,a1⟩⟩,?_⟩))))));refine M8 (V8 (w_var rfl (w_var rfl ⟨_,_,⟨rfl,.inl ⟨_,m,_,rfl,hy g' e,a2⟩⟩,?_⟩)));refine uA (ih ((hs i _ _ h1 h2).ex e) λg2 e2=>?_);exact⟨_,_,by rw[List.replicate_succ'],rfl,e.trans e2⟩
  ·obtain⟨z,w,rfl,rfl,e⟩:=p;refine zh (a7 b8) (v:=true) ?_ (hQ _ (e.trans (Ex.snoc _ _)));have:List.replicate (w6 0 m.length).length (D.bl true)=(List.replicate (w6 0 m.length).length true).map D.bl:=by simp
   rw[this,yU];simp
 intro n
 induction n with
 |zero =>
  intro k g x y Q E h hQ;have h0:=hQ g (Ex.refl g);cases h with
  |aX =>
   refine call_of h7 rfl ?_;dsimp[A6,b9,List.replicate];walk_at"";exact h0
  |bl b=>exact Fc h7 (by simpa using h0)
  |int i =>
   refine call_of h7 rfl ?_;dsimp[A6,b9,List.replicate];walk_at""
   try show wpS _ _ _ _ _ _
   walk_at"";refine fo (c:="bool") (b:=false) (by decide) rfl ?_;walk_at"";refine fo (c:="int") (b:=true) (by decide) rfl ?_;walk_at"";refine Eu h6 ?_;walk_at"";simpa using h0
  |str x =>
   refine call_of h7 rfl ?_;dsimp[A6,b9,List.replicate];walk_at""
   try show wpS _ _ _ _ _ _
   walk_at"";refine fo (c:="bool") (b:=false) (by decide) rfl ?_;walk_at"";refine fo (c:="int") (b:=false) (by decide) rfl ?_;walk_at"";refine fo (c:="str") (b:=true) (by decide) rfl ?_;walk_at"";refine fo (c:="str") (b:=true) (by decide) rfl ?_;walk_at"";simpa using h0
 |succ n ih =>
  intro k g x y Q E h hQ;have h0:=hQ g (Ex.refl g);cases h with
  |aX =>
   refine call_of h7 rfl ?_;dsimp[A6,b9,List.replicate];walk_at"";exact h0
  |bl b=>exact Fc h7 (by simpa using h0)
  |int i =>
   refine call_of h7 rfl ?_;dsimp[A6,b9,List.replicate];walk_at""
   try show wpS _ _ _ _ _ _
   walk_at"";refine fo (c:="bool") (b:=false) (by decide) rfl ?_;walk_at"";refine fo (c:="int") (b:=true) (by decide) rfl ?_;walk_at"";refine Eu h6 ?_;walk_at"";simpa using h0
  |str x =>
   refine call_of h7 rfl ?_;dsimp[A6,b9,List.replicate];walk_at""
   try show wpS _ _ _ _ _ _
   walk_at"";refine fo (c:="bool") (b:=false) (by decide) rfl ?_;walk_at"";refine fo (c:="int") (b:=false) (by decide) rfl ?_;walk_at"";refine fo (c:="str") (b:=true) (by decide) rfl ?_;walk_at"";refine fo (c:="str") (b:=true) (by decide) rfl ?_;walk_at"";simpa using h0
  |@tup _ l m hl hs hz =>
   refine call_of h7 rfl ?_;have body:=qr n ih (k:=k) (x:=.tup l) (y:=.tup m) (E:=E) (λ_ _=>rfl) (λ_ _=>rfl) hl hz hs hQ;dsimp[A6,b9,List.replicate];walk_at""
   try show wpS _ _ _ _ _ _
   walk_at"";refine fo (c:="bool") (b:=false) (by decide) rfl ?_;walk_at"";refine fo (c:="int") (b:=false) (by decide) rfl ?_;walk_at"";refine fo (c:="str") (b:=false) (by decide) rfl ?_;walk_at"";refine fo (c:="tuple") (b:=true) (by decide) rfl ?_;walk_at"";refine fo (c:="tuple") (b:=true) (by decide) rfl ?_;walk_at"";refine hJ rfl ?_;walk_at"";refine fo (c:="list") (b:=false) (by decide) rfl ?_;walk_at"";refine fo (c:="list") (b:=false) (by decide) rfl ?_;walk_at"";refine hJ rfl (ye ?_);exact body
  |@lst _ a b l m ha hb hl hs hz =>
   refine call_of h7 rfl ?_;have body:=qr n ih (k:=k) (x:=.ref a) (y:=.ref b) (E:=E) (λg' e=>a7 (e.at ha)) (λg' e=>a7 (e.at hb)) hl hz hs hQ;have ta:∀c,oP g (.ref a) c=some (c=="list"):=λc=>by simp only[oP,ha]
   have tb:∀c,oP g (.ref b) c=some (c=="list"):=λc=>by simp only[oP,hb]
   dsimp[A6,b9,List.replicate];walk_at""
   try show wpS _ _ _ _ _ _
   walk_at"";refine fo (c:="bool") (b:=false) (by decide) (tb _) ?_;walk_at"";refine fo (c:="int") (b:=false) (by decide) (tb _) ?_;walk_at"";refine fo (c:="str") (b:=false) (by decide) (tb _) ?_;walk_at"";refine fo (c:="tuple") (b:=false) (by decide) (tb _) ?_;walk_at"";refine fo (c:="tuple") (b:=false) (by decide) (ta _) ?_;walk_at"";refine hJ rfl ?_;walk_at"";refine fo (c:="list") (b:=true) (by decide) (tb _) ?_;walk_at"";refine fo (c:="list") (b:=true) (by decide) (ta _) ?_;walk_at"";refine hJ rfl (ye ?_);exact body
end
theorem Ex.NW(h:Gr g.length g g'):Ex g g':=⟨h.len,λi hi=>h.old i (by omega) hi⟩
section
variable{T:Nat->Option aM}{d:Nat}
theorem VL(hx:PyData.strOk x=true)(h:kb (decide (x="lower")||decide (x="upper"))):ph g (.str x) (.tup [.str "lower",.str "upper"]) kb:=by
 refine⟨_,.inr ⟨_,[.str "lower",.str "upper"],.str x,rfl,rfl,rfl,by simp only[PyData.canLayAll0,PyData.canLay0,Bool.and_true];decide +kernel,by simp only[PyData.canLay0];exact hx,rfl⟩,?_⟩;have e:∀y:Str,PyData.eqv (.str y) (.str x)=decide (x=y):=λy=>by
  simp only[PyData.eqv];rw[bL,fC,cu];exact eq_comm
 simp only[List.any_cons,List.any_nil,Bool.or_false,e];exact h
theorem E0(HQ:T 40=some O5)(ho:PyData.strOk x=true)(h1:x="lower"\/x="upper"->Q .aX g)(h3:x≠"lower"->x≠"upper"->E ⟨"BadSide"⟩ g):b0 T (k+1) 40 [.str x] g Q E:=by
 refine call_of HQ rfl ?_;dsimp[O5,b9,List.replicate];walk_at"";refine Z5 (VL ho ?_);walk_at"";by_cases e:x="lower"\/x="upper"
 ·refine hJ (by rw[Bool.not_eq_false',dR,cu,cu];exact e) ?_;walk_at"";exact h1 e
 ·refine iY (by rw[Bool.not_eq_true',Bool.or_eq_false_iff,oW,oW];exact not_or.mp e) ?_;walk_at"";exact h3 (λz=>e (.inl z)) (λz=>e (.inr z))
theorem L0(kj:Ac T)(ho:PyData.strOk x=true)(h1:x="lower"->Q (.int 0) g)(h2:x="upper"->Q (.int 2) g)(h3:x≠"lower"->x≠"upper"->E ⟨"BadSide"⟩ g):b0 T (k+2) 19 [.str x] g Q E:=by
 refine call_of kj.1 rfl ?_;dsimp[yY,b9,List.replicate];walk_at"";refine E0 kj.2 ho (λhx=>?_) h3;walk_at"";by_cases e1:x="lower"
 ·have el:M7 [.tup [.str "lower",.int 0],.tup [.str "upper",.int 2]] x=some (.int 0):=by simp[M7,e1]
  refine BZ el ?_;exact h1 e1
 ·have e2:x="upper":=hx.resolve_left e1;have el:M7 [.tup [.str "lower",.int 0],.tup [.str "upper",.int 2]] x=some (.int 2):=by simp[M7,e1];simp[e2]
  refine BZ el ?_;exact h2 e2
theorem RH(h1:NF T)(h2:T 2=some E9)(pB:T 12=some y9)(rL:FX T)(ha:g[a]?=some (.lst (cs.map d8.d)))(hz:cs.length<=1000)(hm:9<cs.length->E ⟨"TooMany"⟩ g)(hb:cs.length<=9->cs.all n5=false->E ⟨"BadCoin"⟩ g)(h:cs.length<=9->cs.all n5=true->Q .aX g):b0 T (k+6) 18 [.ref a] g Q E:=by
 refine call_of rL.1 rfl ?_;dsimp[T8,b9,List.replicate];walk_at"";rw[av];refine if2 (λc=>?_) (λc=>?_)
 ·walk_at"";exact hm (by omega)
 have h9:cs.length<=9:=by omega
 walk_at"";refine V9 (a9 T _) (jM (a9 T _) ?_);walk_at"";refine⟨a,_,rfl,a7 ha,cs.map d8.d,λi Z g'=>∃z,Z=[some (.ref a),z]/\g'=g/\(cs.take i).all n5=true,λi Z g' p=>?_,⟨none,rfl,rfl,by simp⟩,λi x Z g' hx p=>?_,λZ g' p=>?_⟩
 ·obtain⟨z,rfl,rfl,_⟩:=p;exact v8 (a7 ha)
 ·obtain⟨z,rfl,rfl,hg⟩:=p;rw[aA,ae] at hx;obtain⟨c,hc,rfl⟩:=hx;refine o8 ?_
  try show wpS _ _ _ _ _ _
  walk_at"";refine call_of rL.2 rfl ?_;dsimp[O6,b9,List.replicate];walk_at"";refine Ef h1 h2 pB ?_;walk_at"";cases e:n5 c with
  |true =>
   walk_at"";refine⟨_,rfl,rfl,?_⟩;rw[dr,hc];simp[hg,e]
  |false =>
   refine CD ?_;walk_at"";refine hb h9 ?_;rw[List.all_eq_false];exact⟨c,bc hc,by rw[e];decide⟩
 ·obtain⟨z,rfl,rfl,hg⟩:=p;rw[av,cW] at hg;exact h h9 hg
end
def E6(f:Int)(c:d8):Int:=if f=0 then c.lo else c.up
theorem sO(hf:f=0\/f=2)(c:d8):iu [D.int c.lo,D.tup (c.lm.map .int),D.int c.up,D.tup (c.um.map .int),D.int c.yr] f=some (.int (E6 f c)):=by
 rcases hf with rfl|rfl<;>rfl
def uw:aM:=⟨1,1,(.seq (.ifs (cA .Eq (.call 4 (dg ak (aR 14))) (aR 9)) (.seq (.ret (br (.prim .lst (mh (bQ "") (bQ "Lower") (bQ "both") (bQ "upper "))) (.call 4 (dg ak (aR 4))))) .pass) .pass) (.seq (.ret (br (bN .lst (bQ "lower") (bQ "upper")) (.call 4 (dg ak (aR 2))))) .pass))⟩
section
variable{T:Nat->Option aM}{d:Nat}
theorem MH(h4:T 4=some M6)(wW:T 29=some uw)(D0:j4 g d)(h:∀x g',PyData.strOk x=true->j4 g' d->Gr d g g'->Q (.str x) g'):b0 T (k+2) 29 [.ref d] g Q E:=by
 refine call_of wW rfl ?_;dsimp[uw,b9,List.replicate];walk_at"";refine j9 h4 D0 (by decide) (by decide) λr g1 _ _ D1 G1=>?_;walk_at"";refine if2 (λc=>?_) (λc=>?_)
 ·walk_at"";refine j9 h4 (D1.snoc _) (by decide) (by decide) λr g2 r0 r1 D2 G2=>?_;have e2:=G2.at (i:=g1.length) (by have:=D1.lt;omega) (o:=.lst (([("":Str),("Lower":Str),("both":Str),("upper ":Str)]:List Str).map D.str)) (by simp);obtain⟨v,hv,hm⟩:=R7 (l:=([("":Str),("Lower":Str),("both":Str),("upper ":Str)]:List Str).map D.str) r0 (by simpa using r1);obtain⟨x,hx,rfl⟩:=aF.mp hm;refine Q7 (a7 e2) hv ?_;walk_at"";refine h x g2 ?_ D2 (G1.trans ((Gr.snoc _ _ _).trans G2));simp only[List.mem_cons,List.mem_nil_iff,or_false] at hx;rcases hx with rfl|rfl|rfl|rfl<;>decide +kernel
 ·walk_at"";refine j9 h4 (D1.snoc _) (by decide) (by decide) λr g2 r0 r1 D2 G2=>?_;have e2:=G2.at (i:=g1.length) (by have:=D1.lt;omega) (o:=.lst (([("lower":Str),("upper":Str)]:List Str).map D.str)) (by simp);obtain⟨v,hv,hm⟩:=R7 (l:=([("lower":Str),("upper":Str)]:List Str).map D.str) r0 (by simpa using r1);obtain⟨x,hx,rfl⟩:=aF.mp hm;refine Q7 (a7 e2) hv ?_;walk_at"";refine h x g2 ?_ D2 (G1.trans ((Gr.snoc _ _ _).trans G2));simp only[List.mem_cons,List.mem_nil_iff,or_false] at hx;rcases hx with rfl|rfl<;>decide +kernel
end
theorem T2(ha:g[a]?=some (.lst [.str "lower",.str "upper"]))(hx:PyData.strOk x=true)(h:kb (decide (x="lower")||decide (x="upper"))):ph g (.str x) (.ref a) kb:=by
 refine⟨_,.inr ⟨_,[.str "lower",.str "upper"],.str x,a7 ha,rfl,rfl,by simp only[PyData.canLayAll0,PyData.canLay0,Bool.and_true];decide +kernel,by simp only[PyData.canLay0];exact hx,rfl⟩,?_⟩;have e:∀y:Str,PyData.eqv (.str y) (.str x)=decide (x=y):=λy=>by
  simp only[PyData.eqv];rw[bL,fC,cu];exact eq_comm
 simp only[List.any_cons,List.any_nil,Bool.or_false,e];exact h
theorem Dq{l:List D}(ha:g[a]?=some (.lst l))(hb:g[b]?=some (.lst l))(h:∀x∈l,(∃i,x=.int i)\/∃y,x=.str y)(hz:l.length<=1000):p9 g 1 (.ref a) (.ref b):=by
 refine .lst ha hb rfl (λi x y hx hy=>?_) hz;rw[hx] at hy;cases hy;rcases h x (bc hx) with⟨j,rfl⟩|⟨y,rfl⟩
 ·exact .int _
 ·exact .str _
def cD:d8:=⟨0,[],0,[],0⟩
noncomputable abbrev si(cs:List d8)(i:Nat):d8:=cs.getD i cD
theorem uC(h:cs[i]?=some c):si cs i=c:=by simp[si,List.getD,h]
inductive RW where
 |dW|lower|upper
def RW.s:RW->Str
 |.dW=>"coin"
 |.lower=>"lower"
 |.upper=>"upper"
def meant(cs:List d8)(w:RW)(x:Int)(i:Nat):Bool:=match w with
 |.dW=>decide ((i:Int)=x)
 |.lower=>decide ((si cs i).lo=x)
 |.upper=>decide ((si cs i).up=x)
def pb(cs:List d8)(w:RW)(x:Int):List Nat:=(List.range cs.length).filter (meant cs w x)
def c7(l:List Nat):List D:=l.map λ(i:Nat)=>D.int i
def UL:aM:=⟨2,2,(.seq (.ifs (.cJ (.dA (.call 1 (dE aD (aR 0) (bN (.bin .Sub) (cg .len ak) (aR 1)))))) (.seq (.raise "NoPlace" (cy (bQ "no coin has that place"))) .pass) .pass) .pass)⟩
def S6:aM:=⟨3,4,(.seq (.ifs (.cJ (.dA (.call 38 (cy aO)))) (.seq (.ret (.prim .lst .nil)) .pass) .pass) (.seq (.ifs (cA .Eq aD (bQ "coin")) (.seq (.ret (.comp [2] 3 (.one 2) (.fc (cg .len ak)) (cA .Eq aO ak) aO)) .pass) .pass) (.seq (.set 3 (.call 19 (cy aD))) (.seq (.ret (.comp [3,2] 5 (.many [3,4]) (.jC ak) (cA .Eq (br cC ak) aD) bo)) .pass))))⟩
def yA:aM:=⟨2,3,(.seq (.expr (.call 18 (cy ak))) (.seq (.set 2 (.call 19 (cy aD))) (.seq (.ret (.gb [2] 3 (.one 2) (.ei ak) .no (br aO ak))) .pass)))⟩
def Sz:aM:=⟨2,5,(.seq (.kJ (.many [2,3,4]) aD) (.seq (.ifs (.gK (cA .NotIn aO (.lit (.tup [(.str "coin"),(.str "lower"),(.str "upper")]))) (cA .Eq bo cC)) (.seq (.ret (.lit (.bl false))) .pass) .pass) (.seq (.ret (.dk (bN (.cmp .NotEq) (.call 74 (dE ak aO bo)) (.prim .lst .nil)) (bN (.cmp .NotEq) (.call 74 (dE ak aO cC)) (.prim .lst .nil)))) .pass)))⟩
def UM:aM:=⟨2,4,(.seq (.dU (.many [2,3]) (.jC aD) (.seq (.ifs (.cJ (.dA (.call 88 (dg ak bo)))) (.seq (.raise "BadRule" (cy (.prim .lC (dE (bQ "rule ") (cg .fv aO) (bQ " is none for these coins"))))) .pass) .pass) .pass)) .pass)⟩
def VS:aM:=⟨1,1,(.seq (.ret (cg .sum (.comp [] 2 (.one 1) (.ei ak) .no (bN (.bin .LShift) (aR 1) aD)))) .pass)⟩
def SD:aM:=⟨2,2,(.seq (.ret (bN (.bin .BitOr) ak (bN (.bin .LShift) (aR 1) aD))) .pass)⟩
def SA:aM:=⟨2,4,(.seq (.dU (.one 2) (.ei (.lit (.tup [(.str "lower"),(.str "upper")]))) (.seq (.set 3 (.call 19 (cy aO))) (.seq (.ifs (.dk (cA .Eq (br ak bo) (br aD bo)) (.cJ (.dA (.call 15 (dg (br ak (bN (.bin .Add) bo (aR 1))) (br aD (bN (.bin .Add) bo (aR 1)))))))) (.seq (.ret (.lit (.bl true))) .pass) .pass) .pass))) (.seq (.ret (.lit (.bl false))) .pass))⟩
def IY:aM:=⟨2,2,(.seq (.ret (.chain .Lt .Lt (aR 0) (br aD (aR 4)) (br ak (aR 4)))) .pass)⟩
def UR:aM:=⟨1,1,(.seq (.ret (.comp [0] 3 (.one 2) (.ei ak) .no (.call 90 (cy (.comp [2] 4 (.many [2,3]) (.jC ak) (.dA (.call 92 (dg bo ak))) aO))))) .pass)⟩
def Vo:aM:=⟨1,1,(.seq (.ret (.comp [0] 3 (.one 2) (.ei ak) .no (.call 90 (cy (.comp [2] 4 (.many [2,3]) (.jC ak) (.dA (.call 93 (dg bo ak))) aO))))) .pass)⟩
def TU:aM:=⟨1,1,(.seq (.ret (.comp [0] 3 (.one 2) (.ei (.call 20 (dg ak (bQ "lower")))) .no (.call 90 (cy (.call 74 (dE ak (bQ "lower") aO)))))) .pass)⟩
def Rx:aM:=⟨2,8,(.seq (.set 2 (.comp [] 2 (.one 1) (.ei ak) .no (.prim .lst .nil))) (.seq (.dU (.many [3,4,5]) (.ei aD) (.seq (.set 6 (.call 90 (cy (.call 74 (dE ak bo cC))))) (.seq (.dU (.one 7) (.ei (.call 74 (dE ak bo eK))) (.seq (.ifs (cA .NotIn fJ (br aO jk)) (.seq (.expr (.dS .append (br aO jk) (cy fJ))) .pass) .pass) .pass)) .pass))) (.seq (.ret aO) .pass)))⟩
def UK:aM:=⟨3,3,(.seq (.expr (.call 18 (cy ak))) (.seq (.expr (.call 42 (cy aD))) (.seq (.expr (.call 89 (dg ak aO))) .pass)))⟩
def Sy:aM:=⟨3,3,(.seq (.expr (.call 98 (dE ak aD aO))) (.seq (.ret (.make "Bounds" 113 (dE ak aD aO))) .pass))⟩
def TV:aM:=⟨3,5,(.seq (.set 3 (.call 91 (dg aD aO))) (.seq (.set 4 (bN (.bin .Sub) (cg (.fld "full") ak) aD)) (.seq (.ret (cg .len (.comp [4,3] 4 (.one 3) (.ei (cg (.fld "lower_dies") ak)) (.dk (.dA (bN (.bin .BitAnd) bo aD)) (.dA (bN (.bin .BitAnd) bo ak))) bo))) .pass)))⟩
def TY:aM:=⟨3,3,(.seq (.ifs (.dA (bN (.bin .BitAnd) aD (br (cg (.fld "worn_by_place") ak) aO))) (.seq (.ret (bQ "wear")) .pass) .pass) (.seq (.ifs (.dA (bN (.bin .BitAnd) aD (br (cg (.fld "later_by_place") ak) aO))) (.seq (.ret (bQ "year")) .pass) .pass) (.seq (.ifs (cA .Gt (.call 100 (dE ak aD aO)) (cg (.fld "room") ak)) (.seq (.ret (bQ "anvil")) .pass) .pass) (.seq (.ifs (.cJ (.dA (cg .all (.comp [1] 3 (.one 2) (.ei (br (cg (.fld "needed_by_place") ak) aO)) .no (bN (.bin .BitAnd) ak aO))))) (.seq (.ret (bQ "rule")) .pass) .pass) (.seq (.ret (.lit .aX)) .pass)))))⟩
def UI:aM:=⟨4,4,(.seq (.fk "size" ["Bounds"] ak (cg .len aD)) (.seq (.fk "full" ["Bounds"] ak (bN (.bin .Sub) (bN (.bin .LShift) (aR 1) (cg .len aD)) (aR 1))) (.seq (.fk "room" ["Bounds"] ak aO) (.seq (.fk "worn_by_place" ["Bounds"] ak (.call 94 (cy aD))) (.seq (.fk "later_by_place" ["Bounds"] ak (.call 95 (cy aD))) (.seq (.fk "lower_dies" ["Bounds"] ak (.call 96 (cy aD))) (.seq (.fk "needed_by_place" ["Bounds"] ak (.call 97 (dg aD bo))) .pass)))))))⟩
section
variable{t:MT}{it c elt:ME}{d0:List Nat}
theorem CZ(hP:i0 P)(Sh:S->Prop)(p:Nat->Bool)(w:Nat->D){l:List D}{k:IK}(hk:∀g',Ex g g'->k.Is l g')(hl:l.length<=1000)(h0:Sh (L1 Z d0 n))(hs:∀i d Z g',l[i]?=some d->Ex g g'->Sh Z->je t d Z λcw=>da P c cw g' (λb g3=>b=p i/\Ex g g3/\if b=true then aP P elt cw g3 (λy g4=>y=w i/\Ex g g4/\Sh cw) iD else Sh cw) iD)(hd:∀g',Ex g g'->Q (.ref g'.length) (g'++[.lst (((List.range l.length).filter p).map w)]))(hi:∀R:IK->G->Prop,R k g->fZ P it Z g R E):aP P (.comp d0 n t it c elt) Z g Q E:=by
 refine sT hP (hi _ ?_);refine⟨l,λi ys Z g'=>Ex g g'/\ys=((List.range i).filter p).map w/\Sh Z,hl,λi ys Z g' q=>⟨hk _ q.1,?_⟩,⟨Ex.refl _,rfl,h0⟩,λi x ys Z g' hx q=>?_,λys Z g' q=>?_⟩
 ·obtain⟨_,rfl,_⟩:=q;rw[av];exact aL (gW _ _) (by simp)
 ·obtain⟨e1,rfl,sh⟩:=q;refine v7 (λcw q=>k8 hP c _ _ _ _ _ _ (λb g3 q=>?_) (λ_ _ z=>z) q) (hs i x Z g' hx e1 sh);obtain⟨rfl,e3,q⟩:=q;have ef:((List.range (i+1)).filter p).map w=((List.range i).filter p).map w++if p i=true then[w i] else[]:=by
   rw[List.range_succ,fG,cc]
   congr 1
   cases z:p i<;>simp only[List.filter_cons,z,List.filter_nil]<;>rfl
  cases hp:p i with
  |true =>
   rw[hp] at q ef;rw[aJ rfl] at q ⊢;refine b7 hP elt _ _ _ _ _ _ (λy g4 q=>?_) (λ_ _ z=>z) q;obtain⟨rfl,e4,sh⟩:=q;exact⟨e4,by rw[ef];rfl,sh⟩
  |false =>
   rw[hp] at q ef;rw[aB (by decide)] at q ⊢;exact⟨e3,by rw[ef];simp,q⟩
 ·obtain⟨e1,rfl,sh⟩:=q;exact hd g' e1
theorem Bx(hP:i0 P){l:List D}{o:ME}(hl:c8 g a=some l)(h:∀Q:KD,Q (.ref a) g->aP P o Z g Q E):∀R:IK->G->Prop,R (.lst a) g->fZ P (.ei o) Z g R E:=λR r=>jM hP (h _ ⟨a,l,rfl,hl,r⟩)
theorem NI{l:List D}{o:ME}(hl:c8 g a=some l)(h:∀Q:KD,Q (.ref a) g->aP P o Z g Q E):∀R:IK->G->Prop,R (.oz a) g->fZ P (.jC o) Z g R E:=λR r=>AL (h _ ⟨a,l,rfl,hl,r⟩)
theorem NJ(hP:i0 P){j:Nat}{o:ME}(hj:j<=1000)(h:∀Q:KD,Q (.int (j:Nat)) g->aP P o Z g Q E):∀R:IK->G->Prop,R (.fix (w6 0 j)) g->fZ P (.fc o) Z g R E:=λR r=>vc hP (h _ ⟨j,rfl,by omega,by omega,by simpa using r⟩)
end
section
variable{T:Nat->Option aM}{d:Nat}
theorem SY(h1:NF T)(kj:Ac T)(wU:T 74=some S6){x:Int}(ha:g[a]?=some (.lst (cs.map d8.d)))(hz:cs.length<=1000)(h:∀g' b,Ex g g'->g.length<=b->g'[b]?=some (.lst (c7 (pb cs w x)))->Q (.ref b) g'):b0 T (k+3) 74 [.ref a,.str w.s,.int x] g Q E:=by
 refine call_of wU rfl ?_;dsimp[S6,b9,List.replicate];walk_at"";refine K7 (k:=k+1) h1 ?_;walk_at"";have fld:∀f:Int,(f=0\/f=2)->(∀i c,cs[i]?=some c->meant cs w x i=decide (E6 f c=x))->aP (b0 T (k+2)) (.comp [3,2] 5 (.many [3,4]) (.jC (.var 0)) (.dA (.prim (.cmp .Eq) (.cons (.prim .ix (.cons (.var 4) (.cons (.var 0) .nil))) (.cons (.var 1) .nil)))) (.var 3)) [some (.ref a),some (.str w.s),some (.int x),some (.int f)] g Q E:=λf hf hm=>by
  refine CZ (a9 T _) (λZ=>∃z2 z3 z4,Z=[some (.int f),some (.int x),z2,z3,z4]) (meant cs w x) (λi=>.int (i:Nat)) (l:=oA (cs.map d8.d)) (λg' e=>IG (a7 (e.at ha))) (by rw[ES];simpa using hz) ⟨none,none,none,rfl⟩ (λi d Z g' hx e sh=>?_) (λg' e=>?_) (NI (a7 ha) λQ q=>w_var (d:=.ref a) rfl q)
  ·obtain⟨z2,z3,z4,rfl⟩:=sh;obtain⟨dd,hd,rfl⟩:=Le hx;rw[aA,ae] at hd;obtain⟨c,hc,rfl⟩:=hd;refine yE rfl ?_
   try show da _ _ _ _ _ _
   walk_at"";refine nA (sO hf c) ?_;walk_at"";rw[hm i c hc];refine⟨rfl,e,?_⟩;refine if2 (λ_=>?_) (λ_=>?_)
   ·walk_at"";exact⟨rfl,e,_,_,_,rfl⟩
   ·exact⟨_,_,_,rfl⟩
  ·rw[ES,av];exact h _ _ (e.trans (Ex.snoc _ _)) e.len b8
 cases w with
 |dW =>
  refine iY (by decide +kernel) ?_;walk_at"";refine CZ (a9 T _) (λZ=>∃z1 z2,Z=[some (.int x),z1,z2]) (meant cs .dW x) (λi=>.int (i:Nat)) (l:=w6 0 cs.length) (λg' e=>Q8) (by rw[U5];exact hz) ⟨none,none,rfl⟩ (λi d Z g' hx e sh=>?_) (λg' e=>?_) (NJ (a9 T _) hz λQ q=>?_)
  ·obtain⟨z2,z3,rfl⟩:=sh;obtain⟨hi,rfl⟩:=U6 hx;rw[qg];refine o8 ?_
   try show da _ _ _ _ _ _
   walk_at"";refine⟨rfl,e,?_⟩;refine if2 (λ_=>?_) (λ_=>?_)
   ·walk_at"";exact⟨rfl,e,_,_,rfl⟩
   ·exact⟨_,_,rfl⟩
  ·rw[U5];exact h _ _ (e.trans (Ex.snoc _ _)) e.len b8
  ·walk_at"";rw[av];exact q
 |lower =>
  refine hJ (by decide +kernel) ?_;walk_at"";refine L0 (k:=k) kj (by decide +kernel) (λ_=>?_) (λz=>absurd z (by decide +kernel)) (λz=>absurd rfl z);walk_at"";exact fld 0 (.inl rfl) λi c hc=>by simp only[meant,uC hc];rfl
 |upper =>
  refine hJ (by decide +kernel) ?_;walk_at"";refine L0 (k:=k) kj (by decide +kernel) (λz=>absurd z (by decide +kernel)) (λ_=>?_) (λ_ z=>absurd rfl z);walk_at"";exact fld 2 (.inr rfl) λi c hc=>by simp only[meant,uC hc];rfl
end
def O4:aM:=⟨3,3,(.seq (.ret (bN (.bin .Add) (bN (.bin .Add) (bN (.jg false true) ak aD) (cg .tup aO)) (bN (.jg true false) ak (bN (.bin .Add) aD (aR 1))))) .pass)⟩
def yX:aM:=⟨3,3,(.seq (.ifs (.cJ (.dA (.call 74 (dE ak aD aO)))) (.seq (.raise "NoDie" (cy (bQ "no coin is of that die"))) .pass) .pass) .pass)⟩
def Y1:aM:=⟨1,2,(.seq (.set 1 (aR 1)) (.seq (.ij (cA .In aD ak) (.seq (.iR 1 .iadd (aR 1)) .pass)) (.seq (.ret aD) .pass)))⟩
def Q3:aM:=⟨1,1,(.seq (.fk "held" ["Cabinet"] ak (.prim .N8 .nil)) (.seq (.fk "claims" ["Cabinet"] ak (.prim .N8 .nil)) (.seq (.fk "last_coin" ["Cabinet"] ak (aR 0)) (.seq (.fk "last_fact" ["Cabinet"] ak (aR 0)) .pass))))⟩
def E2:aM:=⟨2,2,(.seq (.ifs (.gK (.cJ (.dA (.call 38 (cy aD)))) (cA .NotIn aD (cg (.fld "held") ak))) (.seq (.raise "NoCoin" (cy (bQ "no coin has that number"))) .pass) .pass) .pass)⟩
def RU:aM:=⟨3,3,(.seq (.expr (.bp "check_number" [("Cabinet",209)] ak (cy aD))) (.seq (.expr (.bp "check_number" [("Cabinet",209)] ak (cy aO))) (.seq (.ifs (cA .Eq aD aO) (.seq (.raise "SameOne" (cy (bQ "two unlike coins are asked for"))) .pass) .pass) .pass)))⟩
def F5:aM:=⟨3,4,(.seq (.set 3 (.call 19 (cy aD))) (.seq (.ret (.comp [2,3,0] 5 (.one 4) (.ei (.bp "numbers" [("Cabinet",221)] ak .nil)) (cA .Eq (br (br (cg (.fld "held") aO) cC) aD) ak) cC)) .pass))⟩
def K5:aM:=⟨4,6,(.seq (.set 4 (.call 19 (cy aD))) (.seq (.dU (.one 5) (.ei aO) (.seq (.cF (cg (.fld "held") ak) eK (.call 177 (dE (br (cg (.fld "held") ak) eK) cC bo))) .pass)) .pass))⟩
def T9:aM:=⟨2,2,(.seq (.expr (.call 39 (cy aD))) (.seq (.ifs (cA .Eq (cg .len (cg (.fld "held") ak)) (aR 9)) (.seq (.raise "Full" (cy (bQ "there is no room for one more coin"))) .pass) .pass) (.seq (.jo "last_coin" ["Cabinet"] ak (aR 1)) (.seq (.cF (cg (.fld "held") ak) (cg (.fld "last_coin") ak) aD) (.seq (.ret (cg (.fld "last_coin") ak)) .pass)))))⟩
def Rw:aM:=⟨3,4,(.seq (.set 3 (.bp "coin" [("Cabinet",222)] ak (cy aD))) (.seq (.expr (.call 39 (cy aO))) (.seq (.cF (cg (.fld "held") ak) aD aO) (.seq (.ret bo) .pass))))⟩
def Vk:aM:=⟨3,3,(.seq (.expr (.bp "check_pair" [("Cabinet",210)] ak (dg aD aO))) (.seq (.jo "last_fact" ["Cabinet"] ak (aR 1)) (.seq (.cF (cg (.fld "claims") ak) (cg (.fld "last_fact") ak) (bN .tup aD aO)) (.seq (.ret (cg (.fld "last_fact") ak)) .pass))))⟩
def F0:aM:=⟨4,5,(.seq (.expr (.call 40 (cy aD))) (.seq (.expr (.call 75 (dE (.bp "coins" [("Cabinet",223)] ak .nil) aD aO))) (.seq (.expr (.call 75 (dE (.bp "coins" [("Cabinet",223)] ak .nil) aD bo))) (.seq (.ifs (cA .Eq aO bo) (.seq (.raise "SameOne" (cy (bQ "two unlike dies are asked for"))) .pass) .pass) (.seq (.set 4 (.bp "numbers_of" [("Cabinet",211)] ak (dg aD bo))) (.seq (.expr (.bp "give_die" [("Cabinet",212)] ak (dE aD cC aO))) (.seq (.ret cC) .pass)))))))⟩
def E4:aM:=⟨4,7,(.seq (.expr (.call 40 (cy aD))) (.seq (.expr (.call 75 (dE (.bp "coins" [("Cabinet",223)] ak .nil) aD aO))) (.seq (.set 4 (.bp "numbers_of" [("Cabinet",211)] ak (dg aD aO))) (.seq (.dU (.one 5) (.ei bo) (.seq (.ifs (.gK (.cJ (.dA (.call 38 (cy eK)))) (cA .NotIn eK cC)) (.seq (.raise "NoCoin" (cy (bQ "no coin of that die has that number"))) .pass) .pass) .pass)) (.seq (.ifs (.gK (cA .NotEq (cg .Q5 bo) (cg .len bo)) (cA .In (cg .len bo) (bN .tup (aR 0) (cg .len cC)))) (.seq (.raise "BadList" (cy (bQ "some coins of the die are asked for, each once, not all of them"))) .pass) .pass) (.seq (.set 6 (.call 194 (cy (.call 20 (dg (.bp "coins" [("Cabinet",223)] ak .nil) aD))))) (.seq (.expr (.bp "give_die" [("Cabinet",212)] ak (dE aD bo fJ))) (.seq (.ret fJ) .pass))))))))⟩
def K4:aM:=⟨1,1,(.seq (.ret (cg .eh (cg (.fld "held") ak))) .pass)⟩
def Q4:aM:=⟨2,2,(.seq (.expr (.bp "check_number" [("Cabinet",209)] ak (cy aD))) (.seq (.ret (br (cg (.fld "held") ak) aD)) .pass))⟩
def N7:aM:=⟨1,1,(.seq (.ret (.comp [0] 3 (.one 2) (.ei (.bp "numbers" [("Cabinet",221)] ak .nil)) .no (br (cg (.fld "held") ak) aO))) .pass)⟩
def N6:aM:=⟨1,1,(.seq (.ret (.comp [0] 3 (.one 2) (.ei (cg .eh (cg (.fld "claims") ak))) .no (.prim .tup (dE aO (br (br (cg (.fld "claims") ak) aO) (aR 0)) (br (br (cg (.fld "claims") ak) aO) (aR 1)))))) .pass)⟩
noncomputable abbrev Hs:=List (Nat×d8)
noncomputable abbrev Fs:=List (Nat×Int×Int)
noncomputable abbrev kN(j:Nat):Key:=.inl (j:Int)
def gc(hs:Hs):List (Key×D):=hs.map λp=>(kN p.1,p.2.d)
def nr(fs:Fs):List (Key×D):=fs.map λp=>(kN p.1,.tup [.int p.2.1,.int p.2.2])
def nums{α:Type}(hs:List (Nat×α)):List Nat:=hs.map (·.1)
def i8(hs:Hs):List d8:=hs.map (·.2)
def iw(l:List Nat):Prop:=l.Pairwise (· < ·)
theorem X8(hs:List (Nat×α)):(nums hs).length=hs.length:=by simp[nums]
theorem VI(hs:Hs):(gc hs).map (·.1)=((nums hs).map λn:Nat=>(n:Int)).map Sum.inl:=by simp[gc,nums,kN]
theorem VE(fs:Fs):(nr fs).map (·.1)=((nums fs).map λn:Nat=>(n:Int)).map Sum.inl:=by simp[nr,nums,kN]
theorem u9{α:Type}{f:α->D}:∀{hs:List (Nat×α)} {n:Nat} {c:α},iw (nums hs)->(n,c)∈hs->L8 (hs.map λp=>(kN p.1,f p.2)) (kN n)=some (f c)
 |[],_,_,_,h=>by cases h
 |(m,e)::r,n,c,inc,h=>by
  have iN:=cH.mp inc;unfold L8;rw[aW,gM];by_cases hm:m=n
  ·subst hm;have:c=e:=by
    rcases ay.mp h with z|z
    ·exact(Prod.mk.inj z).2
    ·have:=iN.1 m (aF.mpr ⟨_,z,rfl⟩);exact absurd this (aZ m)
   subst this;simp
  ·have h':(n,c)∈r:=(ay.mp h).resolve_left λz=>hm (Prod.mk.inj z).1.symm;have eA:decide (kN m=kN n)=false:=aw λz=>hm (by have:(m:Int)=n:=kq z;omega);simp only[eA];exact u9 iN.2 h'
def vg(hs:Hs)(n:Nat)(c:d8):Hs:=hs.map λp=>if p.1=n then(p.1,c) else p
theorem Fp(h:n∈nums hs):putD (gc hs) (kN n) c.d=gc (vg hs n c):=by
 unfold putD;rw[aJ,gc,vg,bj,gc,bj]
 ·refine bP λp _=>?_;show(if kN p.1=kN n then(kN p.1,c.d) else(kN p.1,p.2.d))=_;by_cases e:p.1=n
  ·simp[e]
  ·have:¬kN p.1=kN n:=λz=>e (by have:(p.1:Int)=n:=kq z;omega);simp[e,this]
 ·obtain⟨p,hp,rfl⟩:=aF.mp h;exact gx.mpr ⟨_,aF.mpr ⟨p,hp,rfl⟩,aQ rfl⟩
theorem CH(h:n∉nums hs):putD (gc hs) (kN n) c.d=gc (hs++[(n,c)]):=by
 unfold putD;rw[aB]
 ·simp[gc]
 ·intro z;obtain⟨x,hx,e⟩:=gx.mp z;obtain⟨p,hp,rfl⟩:=aF.mp hx;have:(p.1:Int)=n:=kq (aS e);exact h (aF.mpr ⟨p,hp,by omega⟩)
theorem FK(h:iw l):(l.map λn:Nat=>(n:Int)).Pairwise (·<=·):=eE.mpr (h.imp λz=>by omega)
theorem IC(h:iw l):(l.map λn:Nat=>(n:Int)).Nodup:=eE.mpr (h.imp λz e=>by omega)
theorem WN(h:iw l):K3 (l.map λn:Nat=>(n:Int))=l.map λn:Nat=>(n:Int):=J6 (W9 _) (DP _) (FK h)
theorem CL(h:iw l):n9 (l.map λn:Nat=>(n:Int))=l.map λn:Nat=>(n:Int):=by
 refine J6 ((K2 _).trans ?_) (W8 _) (FK h);rw[R8 (ks:=[]) (by simpa using IC h)];exact lY _
theorem M3(l:List Nat):c7 l=(l.map λn:Nat=>(n:Int)).map D.int:=by simp[c7]
noncomputable abbrev fu(hd cl:Nat)(lc lf:Int):O:=.ins "Cabinet" [("held",.ref hd),("claims",.ref cl),("last_coin",.int lc),("last_fact",.int lf)]
structure iS(g:G)(m hd cl:Nat)(lc lf:Int)(hs:Hs)(fs:Fs):Prop where
 o:g[m]?=some (fu hd cl lc lf)
 h:g[hd]?=some (.bX (gc hs))
 c:g[cl]?=some (.bX (nr fs))
structure jr(hs:Hs):Prop where
 inc:iw (nums hs)
 len:hs.length<=9
 good:∀p∈hs,kn p.2
theorem iS.at{g g':G}{m hd cl:Nat}{lc lf:Int}{hs:Hs}{fs:Fs}(C:iS g m hd cl lc lf hs fs)(e:Ex g g'):iS g' m hd cl lc lf hs fs:=⟨e.at C.o,e.at C.h,e.at C.c⟩
def bR:RW->Int
 |.lower=>0
 |_=>2
theorem zF(w:RW):bR w=0\/bR w=2:=by cases w<;>simp[bR]
def numsOf(hs:Hs)(f v:Int):List Nat:=(hs.filter λp=>decide (E6 f p.2=v)).map (·.1)
theorem O2{n:Nat}(h:n∈numsOf hs f v):n∈nums hs:=by
 obtain⟨p,hp,rfl⟩:=aF.mp h;exact aF.mpr ⟨p,(bV.mp hp).1,rfl⟩
theorem numsOf_len(hs:Hs)(f v:Int):(numsOf hs f v).length<=hs.length:=by
 unfold numsOf;rw[av];exact gW _ _
theorem UA(h:jr hs):(i8 hs).all n5=true:=by
 rw[bZ];intro c hc;obtain⟨p,hp,rfl⟩:=aF.mp hc;exact(h.good p hp).good
theorem Fe(hw:w≠.dW)(v:Int)(i:Nat):meant cs w v i=decide (E6 (bR w) (si cs i)=v):=by
 cases w with
 |dW=>exact absurd rfl hw
 |lower=>rfl
 |upper=>rfl
theorem Wq(hw:w≠.dW)(v:Int):(pb (i8 hs) w v).isEmpty=(numsOf hs (bR w) v).isEmpty:=by
 rw[bL,Yk,Yk];constructor
 ·intro h;rw[numsOf,Ah,gF];intro p hp hd;obtain⟨i,hi,e⟩:=List.getElem_of_mem hp;have hl:i<(i8 hs).length:=by simpa[i8] using hi
  have:i∈pb (i8 hs) w v:=by
   refine bV.mpr ⟨dt.mpr hl,?_⟩;rw[Fe hw,uC (c:=p.2) (by simp[i8,hi,e])];exact hd
  rw[h] at this;cases this
 ·intro h;rw[pb,gF];intro i hi hd;have hl:=dt.mp hi;rw[Fe hw] at hd;have tV:i<hs.length:=by simpa[i8] using hl
  rw[uC (c:=hs[i].2) (by simp[i8,tV])] at hd;have:hs[i].1∈numsOf hs (bR w) v:=aF.mpr ⟨hs[i],bV.mpr ⟨dD tV,hd⟩,rfl⟩;rw[h] at this;cases this
def d8.re(c:d8)(f v:Int):d8:=if f=0 then{ c with lo:=v } else{ c with up:=v }
theorem Qx(c:d8)(f v:Int):(c.re f v).re f v=c.re f v:=by
 unfold d8.re;split<;>rfl
def j3(hs:Hs)(ns:List Nat)(f v:Int):Hs:=hs.map λp=>if p.1∈ns then(p.1,p.2.re f v) else p
theorem Wa{F:Nat×d8->Nat×d8}(h:∀p,(F p).1=p.1):nums (hs.map F)=nums hs:=by
 unfold nums;rw[bj];exact bP λp _=>h p
theorem A5(hs:Hs)(ns:List Nat)(f v:Int):nums (j3 hs ns f v)=nums hs:=Wa λp=>by split<;>rfl
theorem kn.re{c:d8}(h:kn c){f v:Int}(h1:1<=v)(h2:v<=99):kn (c.re f v):=by
 obtain⟨a1,a2,a3,a4,a5,a6⟩:=h.inv;unfold d8.re;split
 ·exact kn.mk' h1 h2 a3.1 a3.2 a5 a6 a2 a4 h.l8 h.u8
 ·exact kn.mk' a1.1 a1.2 h1 h2 a5 a6 a2 a4 h.l8 h.u8
theorem jr.give(h:jr hs){ns:List Nat}(h1:1<=v)(h2:v<=99):jr (j3 hs ns f v):=by
 refine⟨by rw[A5];exact h.inc,by simpa[j3] using h.len,λp hp=>?_⟩;obtain⟨q,hq,rfl⟩:=aF.mp hp;split
 ·exact(h.good q hq).re h1 h2
 ·exact h.good q hq
theorem Dh(inc:iw (nums hs)){ns:List Nat}(hc:(n,c)∈j3 hs ns f v):vg (j3 hs ns f v) n (c.re f v)=j3 hs (ns++[n]) f v:=by
 unfold vg;have iN:iw (nums (j3 hs ns f v)):=by rw[A5];exact inc
 have e:(j3 hs ns f v).map (λp=>if p.1=n then(p.1,c.re f v) else p)=(j3 hs ns f v).map λp=>if p.1=n then(p.1,p.2.re f v) else p:=by
  refine bP λp hp=>?_;by_cases hn:p.1=n
  ·have h1:=u9 (f:=λc:d8=>D.tup [.int c.lo,.int c.up,.int c.yr,.tup (c.lm.map .int),.tup (c.um.map .int)]) iN hc;have h2:=u9 (f:=λc:d8=>D.tup [.int c.lo,.int c.up,.int c.yr,.tup (c.lm.map .int),.tup (c.um.map .int)]) iN (show(n,p.2)∈_ by rw[<- hn];exact hp);have:c=p.2:=by
    have h3:=aG (h1.symm.trans h2);simp only[D.tup.injEq,List.cons.injEq,D.int.injEq,and_true] at h3;obtain⟨a1,a2,a3,a4,a5⟩:=h3;have inj:∀{a b:List Int},a.map D.int=b.map D.int->a=b:=λ{a b} z=>List.map_inj_right (λx y z=>by cases z;rfl) |>.mp z
    have b4:=inj a4;have b5:=inj a5;obtain⟨p1,c1,c2,c3,c4,c5⟩:=p;obtain⟨d1,d2,d3,d4,d5⟩:=c;simp only at a1 a2 a3 b4 b5;subst a1 a2 a3 b4 b5
    rfl
   rw[aJ hn,aJ hn,this]
  ·rw[aB hn,aB hn]
 rw[e];unfold j3;rw[bj];refine bP λp _=>?_;show(if(if p.1∈ns then(p.1,p.2.re f v) else p).1=n then _ else _)=_;by_cases h1:p.1∈ns
 ·rw[aJ h1];simp only[List.mem_append,h1,true_or,if_true,Qx];split<;>rfl
 ·rw[aB h1];by_cases h2:p.1=n
  ·have h3:¬n∈ns:=h2▸h1;simp[h2,h3]
  ·simp[h1,h2]
structure TC(T:Nat->Option aM):Prop where
 nf:NF T
 h2:T 2=some E9
 pB:T 12=some y9
 rL:FX T
 kj:Ac T
 HU:T 20=some yA
 wU:T 74=some S6
 HN:T 75=some yX
 xu:T 177=some O4
 xt:T 194=some Y1
 xk:T 208=some Q3
 xj:T 209=some E2
 xi:T 211=some F5
 xh:T 212=some K5
 xg:T 214=some T9
 rE:T 219=some F0
 rD:T 220=some E4
 xc:T 221=some K4
 xb:T 222=some Q4
 xa:T 223=some N7
 wZ:T 224=some N6
section
variable{t:MT}{it c elt:ME}{d0:List Nat}
theorem G9(hP:i0 P)(h:fZ P it Z g (λk g1=>∃(l:List α) (fl:α->D) (Sh:S->Prop) (p:α->Bool) (w:α->D),(∀g',Ex g1 g'->k.Is (l.map fl) g')/\l.length<=1000/\Sh (L1 Z d0 n) /\
      (∀ x Z g',x ∈ l->Ex g1 g'->Sh Z->je t (fl x) Z λcw=>da P c cw g' (λb g3=>b=p x/\Ex g1 g3/\if b=true then aP P elt cw g3 (λy g4=>y=w x/\Ex g1 g4/\Sh cw) iD else Sh cw) iD)/\∀ g',Ex g1 g'->Q (.ref g'.length) (g' ++ [.lst ((l.filter p).map w)])) E):aP P (.comp d0 n t it c elt) Z g Q E:=by
  refine sT hP (v5 hP it _ _ _ _ _ _ (λk g1 h=>?_) (λ_ _ z=>z) h);obtain⟨l,fl,Sh,p,w,hk,hl,h0,hs,hd⟩:=h;refine⟨l.map fl,λi ys Z g'=>Ex g1 g'/\ys=((l.take i).filter p).map w/\Sh Z,by simpa using hl,λi ys Z g' q=>⟨hk _ q.1,?_⟩,⟨Ex.refl _,by simp,h0⟩,λi x ys Z g' hx q=>?_,λys Z g' q=>?_⟩
  · obtain⟨_,rfl,_⟩:=q;rw[av];exact aL (gW _ _) (by rw[cX];omega)
  · obtain⟨e1,rfl,sh⟩:=q;rw[aA,ae] at hx;obtain⟨x,hx,rfl⟩:=hx;refine v7 (λcw q=>k8 hP c _ _ _ _ _ _ (λb g3 q=>?_) (λ_ _ z=>z) q) (hs x Z g' (bc hx) e1 sh);obtain⟨rfl,e3,q⟩:=q;have ef:((l.take (i+1)).filter p).map w=((l.take i).filter p).map w++if p x=true then[w x] else[]:=by
      rw[dr,hx,fG,cc]
      congr 1
      cases z:p x<;>simp[z]
    cases hp:p x with
    |true =>
      rw[hp] at q ef;rw[aJ rfl] at q ⊢;refine b7 hP elt _ _ _ _ _ _ (λy g4 q=>?_) (λ_ _ z=>z) q;obtain⟨rfl,e4,sh⟩:=q;exact⟨e4,by rw[ef];rfl,sh⟩
    |false =>
      rw[hp] at q ef;rw[aB (by decide)] at q ⊢;exact⟨e3,by rw[ef];simp,q⟩
  · obtain⟨e1,rfl,sh⟩:=q;rw[av,cW];exact hd g' e1
end
section
variable{T:Nat->Option aM}{d:Nat}{c:Nat}{lc lf:Int}
theorem J7(l:List α):l.filter (λ_=>true)=l:=List.filter_eq_self.mpr λ_ _=>rfl
theorem X9(hT:TC T)(C:iS g m hd cl lc lf hs fs)(inc:iw (nums hs))(hz:hs.length<=50)(h:Q (.ref g.length) (g++[.lst (c7 (nums hs))])):b0 T (k+1) 221 [.ref m] g Q E:=by
 refine call_of hT.xc rfl ?_;dsimp[K4,b9,List.replicate];walk_at"";refine K8 C.o rfl ?_;walk_at"";refine Fi C.h (VI hs) (by simp[nums];omega) ?_;rw[CL inc,<- M3];exact h
theorem w5(hT:TC T)(C:iS g m hd cl lc lf hs fs)(inc:iw (nums hs))(hz:hs.length<=50)(h:∀g' r,Ex g g'->g.length<=r->g'[r]?=some (.lst ((i8 hs).map d8.d))->Q (.ref r) g'):b0 T (k+2) 223 [.ref m] g Q E:=by
 refine call_of hT.xa rfl ?_;dsimp[N7,b9,List.replicate];walk_at"";refine G9 (α:=Nat×d8) (a9 T _) (jM (a9 T _) ?_);walk_at"";refine m8 C.o rfl rfl ?_;walk_at"";refine X9 (k:=k) hT C inc hz ?_;have e1:=Ex.snoc g (O.lst (c7 (nums hs)));refine⟨_,_,rfl,a7 b8,hs,λp=>.int (p.1:Nat),λZ=>∃z1 z2,Z=[some (.ref m),z1,z2],λ_=>true,λp=>p.2.d,λg' e=>v8 (a7 ?_),by omega,⟨none,none,rfl⟩,λp Z g' hp e sh=>?_,λg' e=>?_⟩
 ·rw[show hs.map (λp=>D.int (p.1:Nat))=c7 (nums hs) by simp[c7,nums]];exact e.at b8
 ·obtain⟨z1,z2,rfl⟩:=sh;refine o8 (R9 ⟨rfl,e,jD ?_⟩);walk_at"";have C':=(C.at e1).at e;refine K8 C'.o rfl ?_;walk_at"";exact u3 C'.h rfl (u9 (f:=d8.d) inc hp) ⟨rfl,e,_,_,rfl⟩
 ·rw[J7];refine h _ _ ((e1.trans e).trans (Ex.snoc _ _)) (e1.trans e).len ?_;rw[i8,bj];exact b8
theorem VD(hT:TC T)(C:iS g m hd cl lc lf hs fs)(inc:iw (nums fs))(hz:fs.length<=50)(h:∀g' r,Ex g g'->g.length<=r->g'[r]?=some (.lst (fs.map λf=>.tup [.int (f.1:Nat),.int f.2.1,.int f.2.2]))->Q (.ref r) g'):b0 T (k+2) 224 [.ref m] g Q E:=by
 refine call_of hT.wZ rfl ?_;dsimp[N6,b9,List.replicate];walk_at"";refine G9 (α:=Nat×Int×Int) (a9 T _) (jM (a9 T _) ?_);walk_at"";refine K8 C.o rfl ?_;walk_at"";refine Fi C.c (VE fs) (by simp[nums];omega) ?_;rw[CL inc,<- M3];have e1:=Ex.snoc g (O.lst (c7 (nums fs)));refine⟨_,_,rfl,a7 b8,fs,λp=>.int (p.1:Nat),λZ=>∃z1 z2,Z=[some (.ref m),z1,z2],λ_=>true,λf=>.tup [.int (f.1:Nat),.int f.2.1,.int f.2.2],λg' e=>v8 (a7 ?_),by omega,⟨none,none,rfl⟩,λp Z g' hp e sh=>?_,λg' e=>?_⟩
 ·rw[show fs.map (λp=>D.int (p.1:Nat))=c7 (nums fs) by simp[c7,nums]];exact e.at b8
 ·obtain⟨z1,z2,rfl⟩:=sh;refine o8 (R9 ⟨rfl,e,jD ?_⟩);walk_at"";have C':=(C.at e1).at e;have hv:=u9 (f:=λx:Int×Int=>D.tup [.int x.1,.int x.2]) inc hp;refine K8 C'.o rfl ?_;walk_at"";refine u3 C'.c rfl hv ?_;walk_at"";refine K8 C'.o rfl ?_;walk_at"";refine u3 C'.c rfl hv ?_;walk_at"";exact⟨rfl,e,_,_,rfl⟩
 ·rw[J7];exact h _ _ ((e1.trans e).trans (Ex.snoc _ _)) (e1.trans e).len b8
theorem Vy(hT:TC T)(C:iS g m hd cl lc lf hs fs)(inc:iw (nums hs)){x:d8}(hn:(n,x)∈hs)(h:Q x.d g):b0 T (k+3) 222 [.ref m,.int (n:Nat)] g Q E:=by
 refine call_of hT.xb rfl ?_;dsimp[Q4,b9,List.replicate];walk_at"";refine m8 C.o rfl rfl ?_;walk_at"";refine call_of hT.xj rfl ?_;dsimp[E2,b9,List.replicate];walk_at"";refine K7 (k:=k) hT.nf ?_;walk_at"";refine K8 C.o rfl ?_;walk_at"";refine Z5 ⟨(L8 (gc hs) (kN n)).isSome,.inl ⟨_,_,kN n,rfl,C.h,rfl,rfl⟩,?_⟩;rw[show L8 (gc hs) (kN n)=some x.d from u9 (f:=d8.d) inc hn];walk_at"";refine hJ rfl ?_;walk_at"";refine K8 C.o rfl ?_;walk_at"";exact u3 C.h rfl (u9 (f:=d8.d) inc hn) h
theorem N9(hT:TC T)(hw:w≠.dW)(ha:g[a]?=some (.lst ((i8 hs).map d8.d)))(hz:hs.length<=9)(h:numsOf hs (bR w) v≠[]->∀g',Ex g g'->Q .aX g')(hn:numsOf hs (bR w) v=[]->∀g',Ex g g'->E ⟨"NoDie"⟩ g'):b0 T (k+4) 75 [.ref a,.str w.s,.int v] g Q E:=by
 refine call_of hT.HN rfl ?_;dsimp[yX,b9,List.replicate];walk_at"";refine SY (k:=k) hT.nf hT.kj hT.wU ha (by simp[i8];omega) λg1 b e1 _ hb=>?_;walk_at"";refine QM (a7 hb) ?_;have:(c7 (pb (i8 hs) w v)).isEmpty=(numsOf hs (bR w) v).isEmpty:=by
  rw[<- Wq hw];unfold c7;cases pb (i8 hs) w v<;>rfl
 rw[this];cases hq:numsOf hs (bR w) v with
 |nil =>
  refine iY rfl ?_;walk_at"";exact hn hq _ e1
 |cons x l =>
  refine hJ rfl ?_;walk_at"";exact h (by rw[hq];simp) _ e1
theorem Z1(hT:TC T)(hw:w≠.dW)(h:Q (.int (bR w)) g):b0 T (k+2) 19 [.str w.s] g Q E:=by
 cases w with
 |dW=>exact absurd rfl hw
 |lower=>exact L0 (k:=k) hT.kj (by decide +kernel) (λ_=>h) (λz=>absurd z (by decide +kernel)) (λz=>absurd rfl z)
 |upper=>exact L0 (k:=k) hT.kj (by decide +kernel) (λz=>absurd z (by decide +kernel)) (λ_=>h) (λ_ z=>absurd rfl z)
theorem DS(hT:TC T)(hw:w≠.dW)(h:Q .aX g):b0 T (k+1) 40 [.str w.s] g Q E:=by
 cases w with
 |dW=>exact absurd rfl hw
 |lower=>exact E0 hT.kj.2 (by decide +kernel) (λ_=>h) (λz=>absurd rfl z)
 |upper=>exact E0 hT.kj.2 (by decide +kernel) (λ_=>h) (λ_ z=>absurd rfl z)
theorem Ek(hT:TC T)(hw:w≠.dW)(C:iS g m hd cl lc lf hs fs)(inc:iw (nums hs))(hz:hs.length<=50)(h:∀g' r,Ex g g'->g.length<=r->g'[r]?=some (.lst (c7 (numsOf hs (bR w) v)))->Q (.ref r) g'):b0 T (k+3) 211 [.ref m,.str w.s,.int v] g Q E:=by
 refine call_of hT.xi rfl ?_;dsimp[F5,b9,List.replicate];walk_at"";refine Z1 (k:=k) hT hw ?_;walk_at"";refine G9 (α:=Nat×d8) (a9 T _) (jM (a9 T _) ?_);walk_at"";refine m8 C.o rfl rfl ?_;walk_at"";refine X9 (k:=k+1) hT C inc hz ?_;have e1:=Ex.snoc g (O.lst (c7 (nums hs)));refine⟨_,_,rfl,a7 b8,hs,λp=>.int (p.1:Nat),λZ=>∃z3 z4,Z=[some (.int v),some (.int (bR w)),some (.ref m),z3,z4],λp=>decide (E6 (bR w) p.2=v),λp=>.int (p.1:Nat),λg' e=>v8 (a7 ?_),by omega,⟨none,none,rfl⟩,λp Z g' hp e sh=>?_,λg' e=>?_⟩
 ·rw[show hs.map (λp=>D.int (p.1:Nat))=c7 (nums hs) by simp[c7,nums]];exact e.at b8
 ·obtain⟨z3,z4,rfl⟩:=sh;refine o8 ?_
  try show da _ _ _ _ _ _
  walk_at"";have C':=(C.at e1).at e;refine K8 C'.o rfl ?_;walk_at"";refine u3 C'.h rfl (u9 (f:=d8.d) inc hp) ?_;walk_at"";refine nA (sO (zF w) p.2) ?_;walk_at"";refine⟨rfl,e,?_⟩;refine if2 (λ_=>?_) (λ_=>?_)
  ·walk_at"";exact⟨rfl,e,_,_,rfl⟩
  ·exact⟨_,_,rfl⟩
 ·refine h _ _ ((e1.trans e).trans (Ex.snoc _ _)) (e1.trans e).len ?_;rw[numsOf,c7,bj];exact b8
end
theorem Nq{a b c d:D}:cut [a,b,c,d,e] none (some 0)=[]:=rfl
theorem Nr{a b c d:D}:cut [a,b,c,d,e] (some 1) none=[b,c,d,e]:=rfl
theorem Nt{a b c d:D}:cut [a,b,c,d,e] none (some 2)=[a,b]:=rfl
theorem Nu{a b c d:D}:cut [a,b,c,d,e] (some 3) none=[d,e]:=rfl
theorem yC:∀{a b:List Int},a.Nodup->(∀x∈a,x∈b)->a.length<=b.length
 |[],b,_,_=>bY _
 |x::a,b,nd,h=>by
  rw[dQ] at nd;have h1:=h x (by simp);have:=yC (b:=b.erase x) nd.2 λy hy=>(List.mem_erase_of_ne (λz=>nd.1 (by rw[<- z];exact hy))).mpr (h y (by simp[hy]));rw[List.length_erase_of_mem h1] at this;have:=List.length_pos_of_mem h1;rw[cE];omega
structure mL(ds:List Int)(F:Int):Prop where
 pos:1<=F
 no:F∉ds
 all:∀i,1<=i->i<F->i∈ds
theorem mL.le{F:Int}(h:mL ds F):F<=ds.length+1:=by
 have:=yC (a:=(List.range (F-1).toNat).map λi:Nat=>(i:Int)+1) (b:=ds) (eE.mpr (Yj.imp λz e=>z (by omega))) λx hx=>by
  obtain⟨i,hi,rfl⟩:=aF.mp hx;have:=dt.mp hi;exact h.all _ (by omega) (by omega)
 simp at this;have:=h.pos;omega
theorem Lh(ds:List Int):∃F,mL ds F:=by
 have go:∀n:Nat,(∃F,mL ds F)\/∀i:Int,1<=i->i<=n->i∈ds:=λn=>by
  induction n with
  |zero=>exact .inr λi h1 h2=>by omega
  |succ n ih =>
   rcases ih with h|h
   ·exact .inl h
   ·by_cases hn:((n:Int)+1)∈ds
    ·exact .inr λi h1 h2=>by
      by_cases e:i=n+1
      ·rw[e];exact hn
      ·exact h i h1 (by omega)
    ·exact .inl ⟨n+1,by omega,hn,λi h1 h2=>h i h1 (by omega)⟩
 rcases go (ds.length+1) with h|h
 ·exact h
 ·exfalso;have:=yC (a:=(List.range (ds.length+1)).map λi:Nat=>(i:Int)+1) (b:=ds) (eE.mpr (Yj.imp λz e=>z (by omega))) λx hx=>by
   obtain⟨i,hi,rfl⟩:=aF.mp hx;have:=dt.mp hi;exact h _ (by omega) (by omega)
  simp at this;omega
def F2(hs:Hs)(f:Int):List Int:=(i8 hs).map (E6 f)
theorem yV{v:Int}:v∈F2 hs f↔numsOf hs f v≠[]:=by
 unfold F2 i8 numsOf;rw[bj];constructor
 ·intro h z;obtain⟨p,hp,e⟩:=aF.mp h;rw[Ah,gF] at z;exact z p hp (aQ e)
 ·intro h;cases hf:hs.filter λp=>decide (E6 f p.2=v) with
  |nil=>rw[hf] at h;exact absurd rfl h
  |cons p r =>
   have hp:p∈hs.filter λp=>decide (E6 f p.2=v):=by rw[hf];simp
   obtain⟨h1,h2⟩:=bV.mp hp;exact aF.mpr ⟨p,h1,aS h2⟩
def t8(hs:Hs)(f v u:Int):Str:=if numsOf hs f v=[]\/numsOf hs f u=[] then "NoDie" else if v=u then "SameOne" else ""
def F6(hs:Hs)(f v:Int)(ns:List Int):Bool:=decide ((ST.f9 [] ns).length≠ns.length)||(decide (ns.length=0)||decide (ns.length=(numsOf hs f v).length))
def t4(hs:Hs)(f v:Int)(ns:List Int):Str:=if numsOf hs f v=[] then "NoDie" else if(ns.all λn=>decide (n∈(numsOf hs f v).map λn:Nat=>(n:Int)))=true then(if F6 hs f v ns=true then "BadList" else "") else "NoCoin"
section
variable{T:Nat->Option aM}{d:Nat}{c:Nat}
theorem Y8{i:Int}(ha:D9 g y=some (ms.map .int))(h:kb (decide (i∈ms))):ph g (.int i) y kb:=by
 refine⟨_,.inr ⟨_,ms.map .int,.int i,ha,?_,rfl,?_,rfl,rfl⟩,?_⟩
 ·unfold Ax;exact N3 ms
 ·exact lay_ints ms
 ·have:((ms.map PyData.int).any λq=>PyData.eqv q (.int i))=decide (i∈ms):=by
   rw[List.any_map,bL,gx,cu];constructor
   ·rintro⟨x,hx,e⟩;have:x=i:=by simpa[PyData.eqv] using e
    rw[<- this];exact hx
   ·intro hx;exact⟨i,hx,by simp[PyData.eqv]⟩
  rw[this];exact h
theorem U'(hT:TC T){c:d8}(h:Q (c.re (bR w) v).d g):b0 T (k+1) 177 [c.d,.int (bR w),.int v] g Q E:=by
 refine call_of hT.xu rfl ?_;have h0:w=.lower\/bR w=2:=by cases w<;>simp[bR]
 rcases h0 with rfl|h2
 ·dsimp[O4,b9,List.replicate,bR,d8.d];walk_at"";rw[Nq];refine ug (by simp) ?_;walk_at"";rw[show(0:Int)+1=1 by rfl,Nr];refine ug (by simp) ?_;walk_at"";exact h
 ·rw[h2] at h ⊢;dsimp[O4,b9,List.replicate,d8.d];walk_at"";rw[Nt];refine ug (by simp) ?_;walk_at"";rw[show(2:Int)+1=3 by rfl,Nu];refine ug (by simp) ?_;walk_at"";exact h
theorem EX(hT:TC T)(hw:w≠.dW)(C:iS g m hd cl lc lf hs fs)(inc:iw (nums hs))(hz:hs.length<=50){ns:List Nat}(ha:g[a]?=some (.lst (c7 ns)))(hn:∀n∈ns,n∈nums hs)(n1:a≠hd)(n2:m≠hd)(n3:cl≠hd)(h:∀g',g'.length=g.length->(∀i,i≠hd->g'[i]?=g[i]?)->iS g' m hd cl lc lf (j3 hs ns (bR w) v) fs->Q .aX g'):b0 T (k+3) 212 [.ref m,.str w.s,.ref a,.int v] g Q E:=by
 refine call_of hT.xh rfl ?_;dsimp[K5,b9,List.replicate];walk_at"";refine Z1 (k:=k) hT hw ?_;walk_at"";refine V9 (a9 T _) (jM (a9 T _) ?_);walk_at"";refine⟨a,_,rfl,a7 ha,c7 ns,λi Z g'=>(∃z5,Z=[some (.ref m),some (.str w.s),some (.ref a),some (.int v),some (.int (bR w)),z5])/\g'.length=g.length/\(∀i,i≠hd->g'[i]?=g[i]?)/\iS g' m hd cl lc lf (j3 hs (ns.take i) (bR w) v) fs,λi Z g' q=>v8 (a7 (by rw[q.2.2.1 a n1];exact ha)),⟨⟨none,rfl⟩,rfl,λ_ _=>rfl,?_⟩,λi x Z g' hx q=>?_,λZ g' q=>?_⟩
 ·have:j3 hs (ns.take 0) (bR w) v=hs:=by
   unfold j3
   conv=>rhs;rw[<- vq hs]
   exact bP λp _=>by simp
  rw[this];exact C
 ·obtain⟨⟨z5,rfl⟩,l1,o1,C1⟩:=q;rw[c7,aA,ae] at hx;obtain⟨n,hx,rfl⟩:=hx;refine o8 ?_
  try show wpS _ _ _ _ _ _
  have hm:=hn n (bc hx);have lb:n∈nums (j3 hs (ns.take i) (bR w) v):=by rw[A5];exact hm
  have iN:iw (nums (j3 hs (ns.take i) (bR w) v)):=by rw[A5];exact inc
  obtain⟨p,hp,we⟩:=aF.mp lb;have fL:(n,p.2)∈j3 hs (ns.take i) (bR w) v:=by rw[<- we];exact hp
  walk_at"";refine K8 C1.o rfl ?_;walk_at"";refine u3 C1.h rfl (u9 (f:=d8.d) iN fL) ?_;walk_at"";refine U' (k:=k+1) hT ?_;walk_at"";refine K8 C1.o rfl ?_;walk_at"";refine sI C1.h rfl (by simp[gc,j3];omega) ?_;rw[Fp lb,Dh inc fL];refine⟨⟨_,rfl⟩,by simpa using l1,λi hi=>by rw[aK (ba hi)];exact o1 i hi,j5 C1.o (ba n2),?_,j5 C1.c (ba n3)⟩;rw[show ns.take (i+1)=ns.take i++[n] by rw[dr,hx];rfl];exact get_set C1.h
 ·obtain⟨⟨z5,rfl⟩,l1,o1,C1⟩:=q;rw[c7,av,cW] at C1;exact h g' l1 o1 C1
theorem Jc(hT:TC T)(hw:w≠.dW)(C:iS g m hd cl lc lf hs fs)(O1:jr hs)(n2:m≠hd)(n3:cl≠hd)(hn:t8 hs (bR w) v u≠""->∀g',Ex g g'->E ⟨t8 hs (bR w) v u⟩ g')(h:t8 hs (bR w) v u=""->∀g' r,Gr hd g g'->g.length<=r->g'[r]?=some (.lst (c7 (numsOf hs (bR w) u)))->iS g' m hd cl lc lf (j3 hs (numsOf hs (bR w) u) (bR w) v) fs->Q (.ref r) g'):b0 T (k+5) 219 [.ref m,.str w.s,.int v,.int u] g Q E:=by
 have hz:=O1.len;refine call_of hT.rE rfl ?_;dsimp[F0,b9,List.replicate];walk_at"";refine DS (k:=k+3) hT hw ?_;walk_at"";refine m8 C.o rfl rfl ?_;walk_at"";refine w5 (k:=k+2) hT C O1.inc (by omega) λg1 r1 e1 _ mY=>?_;walk_at"";refine N9 (k:=k) hT hw mY hz (λd1 g2 e2=>?_) (λd1 g2 e2=>?_)
 ·have jn:=e1.trans e2;have C2:=C.at jn;walk_at"";refine m8 C2.o rfl rfl ?_;walk_at"";refine w5 (k:=k+2) hT C2 O1.inc (by omega) λg3 r3 e3 _ my=>?_;walk_at"";refine N9 (k:=k) hT hw my hz (λd2 g4 e4=>?_) (λd2 g4 e4=>?_)
  ·have uc:=jn.trans (e3.trans e4);have C4:=C.at uc;walk_at"";refine if2 (λnZ=>?_) (λnZ=>?_)
   ·have:t8 hs (bR w) v u="SameOne":=by unfold t8;rw[aB (λz=>z.elim d1 d2),aJ nZ]
    rw[this] at hn;walk_at"";exact hn (by decide +kernel) _ uc
   ·have this:t8 hs (bR w) v u="":=by unfold t8;rw[aB (λz=>z.elim d1 d2),aB nZ]
    walk_at"";refine m8 C4.o rfl rfl ?_;walk_at"";refine Ek (k:=k+1) hT hw C4 O1.inc (by omega) λg5 r5 e5 l5 tT=>?_;have oB:=uc.trans e5;have C5:=C.at oB;have lh:=v9 C4.h;walk_at"";refine m8 C5.o rfl rfl ?_;walk_at"";refine EX (k:=k+1) hT hw C5 O1.inc (by omega) tT (λn hn=>O2 hn) (by omega) n2 n3 λg6 l6 o6 C6=>?_;walk_at"";refine h this g6 r5 ⟨by have:=oB.len;omega,λi hi hl=>by rw[o6 i hi];exact oB.old i hl⟩ (by have:=uc.len;omega) (by rw[o6 r5 (by omega)];exact tT) C6
  ·have:t8 hs (bR w) v u="NoDie":=by unfold t8;rw[aJ (.inr d2)]
   rw[this] at hn;exact hn (by decide +kernel) _ (jn.trans (e3.trans e4))
 ·have:t8 hs (bR w) v u="NoDie":=by unfold t8;rw[aJ (.inl d1)]
  rw[this] at hn;exact hn (by decide +kernel) _ (e1.trans e2)
theorem Rq(hT:TC T){F:Int}(hF:mL ds F)(ha:g[a]?=some (.lst (ds.map .int)))(h:Q (.int F) g):b0 T (k+1) 194 [.ref a] g Q E:=by
 refine call_of hT.xt rfl ?_;dsimp[Y1,b9,List.replicate];walk_at"";refine M' (λj Z g'=>g'=g/\∃i:Int,Z=[some (.ref a),some (.int i)]/\1<=i/\i<=F/\j=(F-i).toNat) _ ⟨rfl,1,rfl,by decide,hF.pos,rfl⟩ (λj Z g' q=>?_) (a9 T _);obtain⟨rfl,i,rfl,i1,i2,rfl⟩:=q;walk_at"";refine va (Y8 (a7 ha) ?_);walk_at"";refine if2 (λhi=>?_) (λhi=>?_)
 ·have:i≠F:=λz=>hF.no (z▸hi);walk_at"";refine KL rfl ?_;walk_at"";refine Es ?_;exact⟨(F-(i+1)).toNat,by omega,rfl,i+1,rfl,by omega,by omega,rfl⟩
 ·have e:i=F:=by
   refine mO λz=>hi (hF.all i i1 (by omega))
  subst e;walk_at"";exact h
theorem VC(hT:TC T)(hw:w≠.dW)(O1:jr hs)(ha:g[a]?=some (.lst ((i8 hs).map d8.d)))(h:Q (.ref g.length) (g++[.lst ((n9 (F2 hs (bR w))).map .int)])):b0 T (k+7) 20 [.ref a,.str w.s] g Q E:=by
 have hz:(i8 hs).length<=9:=by simpa[i8] using O1.len
 unfold F2 at h;generalize lI:i8 hs=cs at *;have hg:cs.all n5=true:=by rw[<- lI];exact UA O1
 refine call_of hT.HU rfl ?_;dsimp[yA,b9,List.replicate];walk_at"";refine RH (k:=k) hT.nf hT.h2 hT.pB hT.rL ha (by omega) (λz=>by omega) (λ_ z=>by rw[hg] at z;cases z) λ_ _=>?_;walk_at"";refine Z1 (k:=k+4) hT hw ?_;walk_at"";refine MZ (a9 T _) (jM (a9 T _) ?_);walk_at"";refine⟨a,_,rfl,a7 ha,cs.map d8.d,λi ys Z g'=>∃z y,ys=(cs.take i).map (E6 (bR w))/\Z=[some (.int (bR w)),z,y]/\g'=g,by simp;omega,λi ys Z g' p=>?_,⟨none,none,by simp,rfl,rfl⟩,λi c ys Z g' hx p=>?_,λys Z g' p=>?_⟩
 ·obtain⟨z,y,rfl,rfl,rfl⟩:=p;exact⟨v8 (a7 ha),by simp;omega⟩
 ·obtain⟨z,y,rfl,rfl,rfl⟩:=p;rw[aA,ae] at hx;obtain⟨c,hc,rfl⟩:=hx;show da _ _ _ _ _ _;walk_at"";refine nA (sO (zF w) c) ?_;refine⟨_,rfl,_,_,?_,rfl,rfl⟩;rw[dr,hc];simp
 ·obtain⟨z,y,rfl,rfl,rfl⟩:=p;rw[av,cW];exact h
theorem Sm{F:Int}(h:mL ds F):mL (n9 ds) F:=by
 have e:∀x,x∈n9 ds↔x∈ds:=λx=>by rw[(K2 ds).mem_iff,ST.DK];simp
 exact⟨h.pos,λz=>h.no ((e _).mp z),λi h1 h2=>(e _).mpr (h.all i h1 h2)⟩
theorem KH(hT:TC T)(hw:w≠.dW)(C:iS g m hd cl lc lf hs fs)(O1:jr hs)(n2:m≠hd)(n3:cl≠hd)(ha:g[a]?=some (.lst (ns.map .int)))(hl:ns.length<=50)(n1:a≠hd){F:Int}(hF:mL (F2 hs (bR w)) F)(hn:t4 hs (bR w) v ns≠""->∀g',Ex g g'->E ⟨t4 hs (bR w) v ns⟩ g')(h:t4 hs (bR w) v ns=""->∀g',Gr hd g g'->iS g' m hd cl lc lf (j3 hs (ns.map Int.toNat) (bR w) F) fs->Q (.int F) g'):b0 T (k+8) 220 [.ref m,.str w.s,.int v,.ref a] g Q E:=by
 have hz:=O1.len;refine call_of hT.rD rfl ?_;dsimp[E4,b9,List.replicate];walk_at"";refine DS (k:=k+6) hT hw ?_;walk_at"";refine m8 C.o rfl rfl ?_;walk_at"";refine w5 (k:=k+5) hT C O1.inc (by omega) λg1 r1 e1 _ mY=>?_;walk_at"";refine N9 (k:=k+3) hT hw mY hz (λd1 g2 e2=>?_) (λd1 g2 e2=>?_)
 ·have jn:=e1.trans e2;have C2:=C.at jn;walk_at"";refine m8 C2.o rfl rfl ?_;walk_at"";refine Ek (k:=k+4) hT hw C2 O1.inc (by omega) λg3 r3 e3 l3 my=>?_;have iQ:=jn.trans e3;have C3:=C.at iQ;have a3:=iQ.at ha;rw[M3] at my;walk_at"";refine V9 (a9 T _) (jM (a9 T _) ?_);walk_at"";refine⟨a,_,rfl,a7 a3,ns.map .int,λi Z g'=>g'=g3/\(∃z5,Z=[some (.ref m),some (.str w.s),some (.int v),some (.ref a),some (.ref r3),z5,none])/\((ns.take i).all λn=>decide (n∈(numsOf hs (bR w) v).map λn:Nat=>(n:Int)))=true,λi Z g' q=>v8 (a7 (by rw[q.1];exact a3)),⟨rfl,⟨none,rfl⟩,by simp⟩,λi x Z g' hx q=>?_,λZ g' q=>?_⟩
  ·obtain⟨rfl,⟨z5,rfl⟩,q⟩:=q;rw[aA,ae] at hx;obtain⟨n,hx,rfl⟩:=hx;refine o8 ?_
   try show wpS _ _ _ _ _ _
   walk_at"";refine K7 (k:=k+6) hT.nf ?_;walk_at"";refine Z5 (Y8 (a7 my) ?_);walk_at"";by_cases hm:n∈(numsOf hs (bR w) v).map λn:Nat=>(n:Int)
   ·refine hJ (by rw[aQ hm];rfl) ?_;walk_at"";refine⟨rfl,⟨_,rfl⟩,?_⟩;rw[dr,hx];simp only[Option.toList_some,List.all_append,q,List.all_cons,List.all_nil,decide_eq_true hm]
    rfl
   ·refine iY (by rw[aw hm];rfl) ?_;walk_at"";have:t4 hs (bR w) v ns="NoCoin":=by
     unfold t4;rw[aB d1,aB];intro z;exact hm (aS (bZ.mp z n (bc hx)))
    rw[this] at hn;exact hn (by decide +kernel) _ iQ
  ·obtain⟨rfl,⟨z5,rfl⟩,q⟩:=q;rw[av,cW] at q
   try show wpS _ _ _ _ _ _
   walk_at"";refine Et (a7 a3) (by omega) ?_;walk_at""
   try refine pV (a7 a3) ?_
   walk_at"";have bad:F6 hs (bR w) v ns=true->t4 hs (bR w) v ns="BadList":=λz=>by unfold t4;rw[aB d1,aJ q,aJ z]
   have good:F6 hs (bR w) v ns=false->t4 hs (bR w) v ns="":=λz=>by unfold t4;rw[aB d1,aJ q,aB (by rw[z];decide)]
   have lm:(ns.map D.int).length=ns.length:=by simp
   have lr:(((numsOf hs (bR w) v).map λn:Nat=>(n:Int)).map D.int).length=(numsOf hs (bR w) v).length:=by simp
   rw[lm];by_cases c1:(ST.f9 [] ns).length=ns.length
   ·refine hJ (by rw[aQ (show((ST.f9 [] ns).length:Int)=ns.length by omega)];rfl) ?_;walk_at""
    try refine pV (a7 a3) ?_
    walk_at""
    try refine pV (a7 my) ?_
    walk_at""
    try rw[lm]
    try rw[lr]
    refine va (Y8 (ms:=[0,((numsOf hs (bR w) v).length:Int)]) rfl ?_);walk_at"";by_cases c2:ns.length=0\/ns.length=(numsOf hs (bR w) v).length
    ·refine iY (aQ (by rw[ay,fE];omega)) ?_;walk_at"";have b1:F6 hs (bR w) v ns=true:=by
      unfold F6;rcases c2 with z|z
      ·simp[z]
      ·simp[z]
     rw[bad b1] at hn;exact hn (by decide +kernel) _ iQ
    ·refine hJ (aw (by rw[ay,fE];omega)) ?_;have b1:F6 hs (bR w) v ns=false:=by
      unfold F6;rw[aw (by omega),aw (by omega),aw (by omega)]
      rfl
     walk_at"";refine m8 C3.o rfl rfl ?_;walk_at"";refine w5 (k:=k+5) hT C3 O1.inc (by omega) λg4 r4 e4 _ oh=>?_;walk_at"";refine VC (k:=k) hT hw O1 oh ?_;walk_at"";have e5:=e4.trans (Ex.snoc g4 (O.lst ((n9 (F2 hs (bR w))).map .int)));refine Rq (k:=k+6) hT (Sm hF) b8 ?_;have oB:=iQ.trans e5;have C5:=C.at oB;walk_at"";refine m8 C5.o rfl rfl ?_;walk_at"";have qR:∀n∈ns,∃j∈numsOf hs (bR w) v,n=(j:Nat):=λn hx=>by
      obtain⟨j,hj,e⟩:=aF.mp (aS (bZ.mp q n hx));exact⟨j,hj,e.symm⟩
     have en:ns.map D.int=c7 (ns.map Int.toNat):=by
      rw[c7,bj];refine bP λn hx=>?_;obtain⟨j,_,rfl⟩:=qR n hx;simp
     have a5:=e5.at a3;rw[en] at a5;refine EX (k:=k+4) hT hw C5 O1.inc (by omega) a5 (λn hx=>?_) n1 n2 n3 λg6 l6 o6 C6=>?_
     ·obtain⟨i,hi,rfl⟩:=aF.mp hx;obtain⟨j,hj,rfl⟩:=qR i hi;exact O2 (by simpa using hj)
     ·walk_at"";exact h (good b1) g6 ⟨by have:=oB.len;omega,λi hi hl=>by rw[o6 i hi];exact oB.old i hl⟩ C6
   ·refine iY (by rw[aw (show ¬((ST.f9 [] ns).length:Int)=ns.length by omega)];rfl) ?_;walk_at"";have b1:F6 hs (bR w) v ns=true:=by
     unfold F6;rw[aQ c1]
     rfl
    rw[bad b1] at hn;exact hn (by decide +kernel) _ iQ
 ·have:t4 hs (bR w) v ns="NoDie":=by unfold t4;rw[aJ d1]
  rw[this] at hn;exact hn (by decide +kernel) _ (e1.trans e2)
theorem RD(hT:TC T)(C:iS g m hd cl lc lf hs fs){c:d8}(hc:n5 c=true)(hz:hs.length<9)(dn:∀n∈nums hs,n<=lc)(n2:m≠hd)(n3:cl≠hd)(n4:cl≠m)(h:∀g',g'.length=g.length->(∀i,i≠hd->i≠m->g'[i]?=g[i]?)->iS g' m hd cl (lc+1:Nat) lf (hs++[(lc+1,c)]) fs->Q (.int (lc+1:Nat)) g'):b0 T (k+6) 214 [.ref m,c.d] g Q E:=by
 refine call_of hT.xg rfl ?_;dsimp[T9,b9,List.replicate];walk_at"";refine call_of hT.rL.2 rfl ?_;dsimp[O6,b9,List.replicate];walk_at"";refine Ef hT.nf hT.h2 hT.pB ?_;walk_at"";rw[hc];walk_at"";refine K8 C.o rfl ?_;walk_at"";refine Cd C.h ?_;walk_at"";refine if2 (λz=>?_) (λ_=>?_)
 ·rw[gc,av] at z;omega
 walk_at"";refine KJ ?_;walk_at"";refine⟨m,_,_,_,rfl,C.o,by simp,rfl,?_⟩;walk_at"";refine Es ?_;refine⟨_,C.o,by simp,?_⟩;have e3:(O.ins "Cabinet" (x8 "last_coin" (.int ((lc:Nat)+1)) [("held",.ref hd),("claims",.ref cl),("last_coin",.int (lc:Nat)),("last_fact",.int (lf:Nat))]))=fu hd cl (lc+1:Nat) (lf:Nat):=rfl;rw[e3];have wt:=get_set C.o (o':=fu hd cl (lc+1:Nat) (lf:Nat));walk_at"";refine K8 wt rfl ?_;walk_at"";refine K8 wt rfl ?_;walk_at"";have AY:=j5 C.h n2 (o':=fu hd cl (lc+1:Nat) (lf:Nat));refine sI AY rfl (by simp[gc];omega) ?_;rw[CH (n:=lc+1) (λz=>by have:=dn _ z;omega)];walk_at"";have AV:=j5 wt (ba n2) (o':=O.bX (gc (hs++[(lc+1,c)])));refine K8 AV rfl ?_;walk_at"";refine h _ (by simp) (λi h1 h2=>by rw[aK (ba h1),aK (ba h2)]) ⟨AV,get_set AY,j5 (j5 C.c (ba n4)) (ba n3)⟩
end
def za:aM:=⟨2,2,(.seq (.ifs (.gK (cA .Eq (cg .len aD) (aR 0)) (cA .Eq (.call 4 (dg ak (aR 10))) (aR 4))) (.seq (.ret (.call 36 (dg ak (bN (.bin .Add) (aR 3) (cg .len aD))))) .pass) .pass) (.seq (.ret (br aD (.call 4 (dg ak (cg .len aD))))) .pass))⟩
def zO:aM:=⟨0,0,(.seq (.ret (.lR (.cons (bQ "coins") (Bj (.prim .N8 .nil) (bQ "facts") (.prim .N8 .nil) (bQ "given") (aR 0) (bQ "learnt") (aR 0))))) .pass)⟩
def yM:aM:=⟨1,1,(.seq (.ret (.comp [0] 3 (.one 2) (.ei (cg .eh (cg .list (br ak (bQ "coins"))))) .no (br (br ak (bQ "coins")) aO))) .pass)⟩
def zl:aM:=⟨2,2,(.seq (.ifs (.cJ (.dA (.call 13 (cy aD)))) (.seq (.ret (bN .tup (bQ "BadCoin") (.lit .aX))) .pass) .pass) (.seq (.ifs (cA .Gt (cg .len (br ak (bQ "coins"))) (aR 8)) (.seq (.ret (bN .tup (bQ "Full") (.lit .aX))) .pass) .pass) (.seq (.cF ak (bQ "given") (bN (.bin .Add) (br ak (bQ "given")) (aR 1))) (.seq (.cF (br ak (bQ "coins")) (br ak (bQ "given")) aD) (.seq (.ret (bN .tup (bQ "") (br ak (bQ "given")))) .pass)))))⟩
def zb:aM:=⟨3,4,(.seq (.set 3 (cg .list ak)) (.seq (.cF bo (.ite (cA .Eq aD (bQ "lower")) (aR 0) (aR 2)) aO) (.seq (.ret (.prim .tup (Aj (br bo (aR 0)) (br bo (aR 1)) (br bo (aR 2)) (br bo (aR 3)) (br bo (aR 4))))) .pass)))⟩
def zN:aM:=⟨3,4,(.seq (.set 3 (.ite (cA .Eq aD (bQ "lower")) (aR 0) (aR 2))) (.seq (.ret (.comp [3,0,2] 5 (.one 4) (.ei (cg .eh (cg .list (br ak (bQ "coins"))))) (cA .Eq (br (br (br aD (bQ "coins")) cC) ak) aO) cC)) .pass))⟩
def ur:aM:=⟨4,6,(.seq (.ifs (cA .NotIn aD (bN .lst (bQ "lower") (bQ "upper"))) (.seq (.ret (bN .tup (bQ "BadSide") (.lit .aX))) .pass) .pass) (.seq (.set 4 (.call 201 (dE ak aD bo))) (.seq (.ifs (.gK (cA .Eq (cg .len cC) (aR 0)) (cA .Eq (cg .len (.call 201 (dE ak aD aO))) (aR 0))) (.seq (.ret (bN .tup (bQ "NoDie") (.lit .aX))) .pass) .pass) (.seq (.ifs (cA .Eq aO bo) (.seq (.ret (bN .tup (bQ "SameOne") (.lit .aX))) .pass) .pass) (.seq (.dU (.one 5) (.ei cC) (.seq (.cF (br ak (bQ "coins")) eK (.call 200 (dE (br (br ak (bQ "coins")) eK) aD aO))) .pass)) (.seq (.ret (bN .tup (bQ "") cC)) .pass))))))⟩
def uu:aM:=⟨4,7,(.seq (.ifs (cA .NotIn aD (bN .lst (bQ "lower") (bQ "upper"))) (.seq (.ret (bN .tup (bQ "BadSide") (.lit .aX))) .pass) .pass) (.seq (.set 4 (.call 201 (dE ak aD aO))) (.seq (.ifs (cA .Eq (cg .len cC) (aR 0)) (.seq (.ret (bN .tup (bQ "NoDie") (.lit .aX))) .pass) .pass) (.seq (.ifs (.cJ (.dA (cg .all (.comp [4] 3 (.one 2) (.ei bo) .no (bN (.cmp .In) aO ak))))) (.seq (.ret (bN .tup (bQ "NoCoin") (.lit .aX))) .pass) .pass) (.seq (.ifs (.gK (cA .Eq (cg .len bo) (aR 0)) (.gK (cA .Lt (cg .Q5 bo) (cg .len bo)) (cA .Eq (cg .len bo) (cg .len cC)))) (.seq (.ret (bN .tup (bQ "BadList") (.lit .aX))) .pass) .pass) (.seq (.set 6 (br (.comp [0,1] 4 (.one 3) (.iq (aR 1) (aR 12)) (cA .Eq (cg .len (.call 201 (dE ak aD bo))) (aR 0)) bo) (aR 0))) (.seq (.dU (.one 5) (.ei bo) (.seq (.cF (br ak (bQ "coins")) eK (.call 200 (dE (br (br ak (bQ "coins")) eK) aD fJ))) .pass)) (.seq (.ret (bN .tup (bQ "") fJ)) .pass))))))))⟩
def yz:aM:=⟨3,4,(.seq (.set 3 (.ite (cA .Eq aO (bQ "lower")) (aR 0) (aR 2))) (.seq (.ret (.call 37 (dg ak (cg .sset (.comp [3] 3 (.one 2) (.ei (.call 196 (cy aD))) .no (br aO ak)))))) .pass))⟩
def J1(qc qf gv lr:Nat):List (Key×D):=[(.inr "coins",.ref qc),(.inr "facts",.ref qf),(.inr "given",.int (gv:Nat)),(.inr "learnt",.int (lr:Nat))]
theorem P4:L8 (J1 qc qf gv lr) (.inr "coins")=some (.ref qc):=rfl
theorem OQ:L8 (J1 qc qf gv lr) (.inr "facts")=some (.ref qf):=rfl
theorem zT:L8 (J1 qc qf gv lr) (.inr "given")=some (.int (gv:Nat)):=rfl
theorem NX{x:Nat}:putD (J1 qc qf gv lr) (.inr "given") (.int (x:Nat))=J1 qc qf x lr:=rfl
structure hW(g:G)(q qc qf gv lr:Nat)(hs:Hs)(fs:Fs):Prop where
 b:g[q]?=some (.bX (J1 qc qf gv lr))
 c:g[qc]?=some (.bX (gc hs))
 f:g[qf]?=some (.bX (nr fs))
theorem hW.at{g g':G}{q qc qf gv lr:Nat}{hs:Hs}{fs:Fs}(B:hW g q qc qf gv lr hs fs)(e:Ex g g'):hW g' q qc qf gv lr hs fs:=⟨e.at B.b,e.at B.c,e.at B.f⟩
def fX(x:Str):Int:=if x="lower" then 0 else 2
theorem BX(x:Str):fX x=0\/fX x=2:=by unfold fX;split<;>simp
theorem pJ(hw:w≠.dW):fX w.s=bR w:=by
 cases w with
 |dW=>exact absurd rfl hw
 |lower=>rfl
 |upper=>rfl
theorem j4.gr{d x:Nat}(D0:j4 g d)(F:Gr x g g')(h:d<x):j4 g' d:=by
 obtain⟨s,p,b,r,xs,e1,e2,hs,q⟩:=D0.ex;exact⟨s,p,b,r,xs,F.at (by omega) e1,F.at (by omega) e2,hs,q⟩
structure TD(T:Nat->Option aM):Prop where
 h4:T 4=some M6
 h5:T 5=some pL
 HS:T 36=some zm
 HR:T 37=some za
 h8:T 8=some Q2
 xy:T 13=some M0
 xr:T 195=some zO
 xq:T 196=some yM
 xp:T 197=some zl
 xo:T 200=some zb
 xn:T 201=some zN
 rJ:T 202=some ur
 rH:T 203=some uu
section
variable{T:Nat->Option aM}{d:Nat}{c:Nat}
theorem Ci(hT:TD T)(hj:0<=j/\j<=1000)(D0:j4 g d)(h:∀(v:Int) g',j4 g' d->Gr d g g'->Q (.int v) g'):b0 T (k+3) 36 [.ref d,.int j] g Q E:=by
 refine call_of hT.HS rfl ?_;dsimp[zm,b9,List.replicate];walk_at"";refine j9 (k:=k+1) hT.h4 D0 (by decide) (by decide) λr g1 _ _ D1 G1=>?_;walk_at"";refine if2 (λ_=>?_) (λ_=>?_)
 ·walk_at"";exact Rk (k:=k) hT.h4 hT.h5 D1 λr g2 D2 G2=>h r g2 D2 (G1.trans G2)
 ·walk_at"";refine j9 (k:=k+1) hT.h4 D1 (by omega) (by omega) λr g2 _ _ D2 G2=>?_;walk_at"";exact h _ _ D2 (G1.trans G2)
theorem Fh(hT:TD T)(hi:g[i]?=some (.lst (ns.map .int)))(hd:d<i)(hz:ns.length<=100)(D0:j4 g d)(h:∀(v:Int) g',j4 g' d->Gr d g g'->Q (.int v) g'):b0 T (k+4) 37 [.ref d,.ref i] g Q E:=by
 refine call_of hT.HR rfl ?_;dsimp[za,b9,List.replicate];walk_at"";rw[av];refine if2 (λ_=>?_) (λc1=>?_)
 ·refine iY rfl ?_;walk_at"";refine Ci (k:=k) hT (by rw[av];omega) D0 λv g2 D2 G2=>?_;exact h v g2 D2 G2
 walk_at"";refine j9 hT.h4 D0 (by decide) (by decide) λr g1 _ _ D1 G1=>?_;have Hr:=G1.at (by omega) hi;walk_at"";refine if2 (λ_=>?_) (λ_=>?_)
 ·walk_at"";refine Ci (k:=k) hT (by rw[av];omega) D1 λv g2 D2 G2=>?_;exact h v g2 D2 (G1.trans G2)
 ·walk_at"";rw[av];refine j9 hT.h4 D1 (by omega) (by omega) λr2 g2 r0 r1 D2 G2=>?_;obtain⟨y,hy,hm⟩:=R7 (l:=ns.map D.int) r0 (by rw[av];exact r1);obtain⟨v,_,rfl⟩:=aF.mp hm;refine Q7 (a7 (G2.at (by omega) Hr)) hy ?_;walk_at"";exact h v g2 D2 (G1.trans G2)
theorem S7(hs:Hs):((gc hs).map (·.1)).map kD=c7 (nums hs):=by
 simp[gc,nums,c7,kD]
theorem TM(fs:Fs):((nr fs).map (·.1)).map kD=c7 (nums fs):=by
 simp[nr,nums,c7,kD]
theorem F8(ha:g[a]?=some (.lst (c7 l)))(inc:iw l)(hz:l.length<=50)(h:Q (.ref g.length) (g++[.lst (c7 l)])):cG .eh [.ref a] g Q:=by
 rw[M3] at ha h;refine LU (a7 ha) (by simp;omega) ?_;rw[WN inc];exact h
theorem DQ(hT:TD T)(B:hW g q qc qf gv lr hs fs)(inc:iw (nums hs))(hz:hs.length<=50)(h:∀g' r,Ex g g'->g.length<=r->g'[r]?=some (.lst ((i8 hs).map d8.d))->Q (.ref r) g'):b0 T (k+1) 196 [.ref q] g Q E:=by
 refine call_of hT.xq rfl ?_;dsimp[yM,b9,List.replicate];walk_at"";refine G9 (α:=Nat×d8) (a9 T _) (jM (a9 T _) ?_);walk_at"";refine u3 B.b rfl P4 ?_;walk_at"";refine sE B.c (by simp[gc];omega) ?_;rw[S7];walk_at"";refine F8 b8 inc (by rw[X8];exact hz) ?_;have e1:=(Ex.snoc g (O.lst (c7 (nums hs)))).trans (Ex.snoc _ (O.lst (c7 (nums hs))));refine⟨_,_,rfl,a7 b8,hs,λp=>.int (p.1:Nat),λZ=>∃z1 z2,Z=[some (.ref q),z1,z2],λ_=>true,λp=>p.2.d,λg' e=>v8 (a7 ?_),by omega,⟨none,none,rfl⟩,λp Z g' hp e sh=>?_,λg' e=>?_⟩
 ·rw[show hs.map (λp=>D.int (p.1:Nat))=c7 (nums hs) by simp[c7,nums]];exact e.at b8
 ·obtain⟨z1,z2,rfl⟩:=sh;refine o8 (R9 ⟨rfl,e,jD ?_⟩);walk_at"";have B':=(B.at e1).at e;refine u3 B'.b rfl P4 ?_;walk_at"";exact u3 B'.c rfl (u9 (f:=d8.d) inc hp) ⟨rfl,e,_,_,rfl⟩
 ·rw[J7];refine h _ _ ((e1.trans e).trans (Ex.snoc _ _)) (e1.trans e).len ?_;rw[i8,bj];exact b8
theorem V4(hT:TD T)(B:hW g q qc qf gv lr hs fs)(inc:iw (nums hs))(hz:hs.length<=50)(h:∀g' r,Ex g g'->g.length<=r->g'[r]?=some (.lst (c7 (numsOf hs (fX x) v)))->Q (.ref r) g'):b0 T (k+1) 201 [.ref q,.str x,.int v] g Q E:=by
 refine call_of hT.xn rfl ?_;dsimp[zN,b9,List.replicate];have rest:aP (b0 T k) (.comp [3,0,2] 5 (.one 4) (.ei (.prim .eh (.cons (.prim .list (.cons (.prim .ix (.cons (.var 0) (.cons (.lit (.str "coins")) .nil))) .nil)) .nil))) (.dA (.prim (.cmp .Eq) (.cons (.prim .ix (.cons (.prim .ix (.cons (.prim .ix (.cons (.var 1) (.cons (.lit (.str "coins")) .nil))) (.cons (.var 4) .nil))) (.cons (.var 0) .nil))) (.cons (.var 2) .nil)))) (.var 4)) [some (.ref q),some (.str x),some (.int v),some (.int (fX x))] g Q E:=by
  refine G9 (α:=Nat×d8) (a9 T _) (jM (a9 T _) ?_);walk_at"";refine u3 B.b rfl P4 ?_;walk_at"";refine sE B.c (by simp[gc];omega) ?_;rw[S7];walk_at"";refine F8 b8 inc (by rw[X8];exact hz) ?_;have e1:=(Ex.snoc g (O.lst (c7 (nums hs)))).trans (Ex.snoc _ (O.lst (c7 (nums hs))));refine⟨_,_,rfl,a7 b8,hs,λp=>.int (p.1:Nat),λZ=>∃z3 z4,Z=[some (.int (fX x)),some (.ref q),some (.int v),z3,z4],λp=>decide (E6 (fX x) p.2=v),λp=>.int (p.1:Nat),λg' e=>v8 (a7 ?_),by omega,⟨none,none,rfl⟩,λp Z g' hp e sh=>?_,λg' e=>?_⟩
  ·rw[show hs.map (λp=>D.int (p.1:Nat))=c7 (nums hs) by simp[c7,nums]];exact e.at b8
  ·obtain⟨z3,z4,rfl⟩:=sh;refine o8 ?_
   try show da _ _ _ _ _ _
   walk_at"";have B':=(B.at e1).at e;refine u3 B'.b rfl P4 ?_;walk_at"";refine u3 B'.c rfl (u9 (f:=d8.d) inc hp) ?_;walk_at"";refine nA (sO (BX x) p.2) ?_;walk_at"";refine⟨rfl,e,?_⟩;refine if2 (λ_=>?_) (λ_=>?_)
   ·walk_at"";exact⟨rfl,e,_,_,rfl⟩
   ·exact⟨_,_,rfl⟩
  ·refine h _ _ ((e1.trans e).trans (Ex.snoc _ _)) (e1.trans e).len ?_;rw[numsOf,c7,bj];exact b8
 walk_at"";refine if2 (λc1=>?_) (λc1=>?_)
 ·rw[show fX x=0 from aJ c1] at rest;exact w_lit rest
 ·rw[show fX x=2 from aB c1] at rest;exact w_lit rest
theorem Rm(hT:TD T){c:d8}(h:∀g',Ex g g'->Q (c.re (fX x) v).d g'):b0 T (k+1) 200 [c.d,.str x,.int v] g Q E:=by
 refine call_of hT.xo rfl ?_;dsimp[zb,b9,List.replicate,d8.d];walk_at"";have gs:=b8 (g:=g) (o:=O.lst [D.int c.lo,D.tup (c.lm.map .int),D.int c.up,D.tup (c.um.map .int),D.int c.yr]);have fin:∀l:List D,Ex g ((g++[O.lst [D.int c.lo,D.tup (c.lm.map .int),D.int c.up,D.tup (c.um.map .int),D.int c.yr]]).set g.length (.lst l)):=λl=>⟨by simp,λi hi=>by rw[aK (by omega),aE hi]⟩
 refine if2 (λc1=>?_) (λc1=>?_)
 ·rw[show fX x=0 from aJ c1] at h;walk_at"";refine S1 gs (n:=0) rfl ?_;have g2:=get_set gs (o':=O.lst ([D.int c.lo,D.tup (c.lm.map .int),D.int c.up,D.tup (c.um.map .int),D.int c.yr].set 0 (.int v)));walk_at"";exact h _ (fin _)
 ·rw[show fX x=2 from aB c1] at h;walk_at"";refine S1 gs (n:=2) rfl ?_;have g2:=get_set gs (o':=O.lst ([D.int c.lo,D.tup (c.lm.map .int),D.int c.up,D.tup (c.um.map .int),D.int c.yr].set 2 (.int v)));walk_at"";exact h _ (fin _)
theorem Vr(hT:TD T)(B:hW g q qc qf gv lr hs fs){c:d8}(hc:n5 c=true)(hz:hs.length<9)(dn:∀n∈nums hs,n<=gv)(n2:q≠qc)(n3:qf≠qc)(n4:qf≠q)(h:∀g' y,g.length<=g'.length->(∀i,i<g.length->i≠qc->i≠q->g'[i]?=g[i]?)->hW g' q qc qf (gv+1) lr (hs++[(gv+1,c)]) fs->Q y g'):b0 T (k+3) 197 [.ref q,c.d] g Q E:=by
 refine call_of hT.xp rfl ?_;dsimp[zl,b9,List.replicate];walk_at"";refine Tz (k:=k) (d:=g.length) hT.h8 hT.xy λg1 G1 _=>?_;have e1:=Ex.NW G1;have B1:=B.at e1;rw[hc];walk_at"";refine u3 B1.b rfl P4 ?_;walk_at"";refine Cd B1.c ?_;walk_at"";refine if2 (λz=>?_) (λ_=>?_)
 ·rw[gc,av] at z;omega
 walk_at"";refine u3 B1.b rfl zT ?_;walk_at"";refine sI B1.b rfl (by simp[J1]) ?_;rw[show((gv:Nat):Int)+1=((gv+1:Nat):Int) by omega,NX];have b2:=get_set B1.b (o':=O.bX (J1 qc qf (gv+1) lr));have c2:=j5 B1.c n2 (o':=O.bX (J1 qc qf (gv+1) lr));walk_at"";refine u3 b2 rfl P4 ?_;walk_at"";refine u3 b2 rfl zT ?_;walk_at"";refine sI c2 rfl (by simp[gc];omega) ?_;rw[CH (n:=gv+1) (λz=>by have:=dn _ z;omega)];have b3:=j5 b2 (ba n2) (o':=O.bX (gc (hs++[(gv+1,c)])));walk_at"";refine u3 b3 rfl zT ?_;walk_at"";exact h _ _ (by simpa using e1.len) (λi h0 h1 h2=>by rw[aK (ba h1),aK (ba h2)];exact e1.old i h0) ⟨b3,get_set c2,j5 (j5 B1.f (ba n4)) (ba n3)⟩
theorem Di(hT:TD T){i3 i6:Nat}(B:hW g q qc qf gv lr hs fs)(inc:iw (nums hs))(hz:hs.length<=50){ns:List Nat}(ha:g[a]?=some (.lst (c7 ns)))(hn:∀n∈ns,n∈nums hs)(n1:a≠qc)(n2:q≠qc)(n3:qf≠qc)(s0:∀y,(Z.set 5 y)[0]?=some (some (.ref q)))(s1:∀y,(Z.set 5 y)[1]?=some (some (.str x)))(s3:Z[i3]?=some (some (.ref a)))(s6:∀y,(Z.set 5 y)[i6]?=some (some (.int v)))(s5:∀y,(Z.set 5 y)[5]?=some y)(h:∀g' y,Gr qc g g'->hW g' q qc qf gv lr (j3 hs ns (fX x) v) fs->N.nx (Z.set 5 y) g')(h0:ns=[]->∀g',Gr qc g g'->hW g' q qc qf gv lr hs fs->N.nx Z g'):wpS (b0 T (k+1)) (.dU (.one 5) (.ei (.var i3)) (.seq (.cF (.prim .ix (.cons (.var 0) (.cons (.lit (.str "coins")) .nil))) (.var 5) (.call 200 (.cons (.prim .ix (.cons (.prim .ix (.cons (.var 0) (.cons (.lit (.str "coins")) .nil))) (.cons (.var 5) .nil))) (.cons (.var 1) (.cons (.var i6) .nil))))) .pass)) N Z g E:=by
 refine V9 (a9 T _) (jM (a9 T _) (w_var s3 ?_));refine⟨a,_,rfl,a7 ha,c7 ns,λi bD g'=>(bD=Z/\i=0\/0<i/\∃y,bD=Z.set 5 y)/\Gr qc g g'/\hW g' q qc qf gv lr (j3 hs (ns.take i) (fX x) v) fs,λi Z g' q=>v8 (a7 (q.2.1.at n1 ha)),⟨.inl ⟨rfl,rfl⟩,Gr.refl _ _,?_⟩,λi y bD g' hx q'=>?_,λbD g' q'=>?_⟩
 ·have:j3 hs (ns.take 0) (fX x) v=hs:=by
   unfold j3
   conv=>rhs;rw[<- vq hs]
   exact bP λp _=>by simp
  rw[this];exact B
 ·obtain⟨tM,G1,B1⟩:=q';rw[c7,aA,ae] at hx;obtain⟨n,hx,rfl⟩:=hx;refine o8 ?_;have Ij:bD.set 5 (some (.int (n:Nat)))=Z.set 5 (some (.int (n:Nat))):=by
   rcases tM with⟨rfl,_⟩|⟨_,y,rfl⟩
   ·rfl
   ·rw[jA]
  rw[Ij];have hm:=hn n (bc hx);have lb:n∈nums (j3 hs (ns.take i) (fX x) v):=by rw[A5];exact hm
  have iN:iw (nums (j3 hs (ns.take i) (fX x) v)):=by rw[A5];exact inc
  obtain⟨p,hp,we⟩:=aF.mp lb;have fL:(n,p.2)∈j3 hs (ns.take i) (fX x) v:=by rw[<- we];exact hp
  refine yf (Fz (yd (M8 (V8 (V8 (w_var (s0 _) (w_lit ?_)))))));refine u3 B1.b rfl P4 (w_var (s5 _) ?_);refine u3 B1.c rfl (u9 (f:=d8.d) iN fL) ?_;refine M8 (w_var (s1 _) (M8 (w_var (s6 _) (uA ?_))));refine Rm (k:=k) hT λg2 e2=>?_;have B2:=B1.at e2;refine V8 (w_var (s0 _) (w_lit (u3 B2.b rfl P4 ?_)));refine w_var (s5 _) ?_;refine sI B2.c rfl (by simp[gc,j3];omega) ?_;rw[Fp lb,Dh inc fL];refine⟨.inr ⟨Nat.succ_pos _,_,rfl⟩,(G1.trans (e2.gr qc)).trans (Gr.set _ _ _),j5 B2.b (ba n2),?_,j5 B2.f (ba n3)⟩;rw[show ns.take (i+1)=ns.take i++[n] by rw[dr,hx];rfl];exact get_set B2.c
 ·obtain⟨tM,G1,B1⟩:=q';rw[c7,av] at tM;rw[c7,av,cW] at B1;rcases tM with⟨rfl,z⟩|⟨_,y,rfl⟩
  ·have z':ns=[]:=bq z;subst z';have:j3 hs [] (fX x) v=hs:=by
    unfold j3
    conv=>rhs;rw[<- vq hs]
    exact bP λp _=>by simp
   rw[this] at B1;exact h0 rfl _ G1 B1
  ·exact h _ _ G1 B1
end
section
variable{T:Nat->Option aM}{d:Nat}{c:Nat}
theorem X0(hw:w≠.dW):PyData.strOk w.s=true/\(decide (w.s="lower")||decide (w.s="upper"))=true:=by
 cases w with
 |dW=>exact absurd rfl hw
 |lower=>decide +kernel
 |upper=>decide +kernel
theorem FA(hT:TD T)(hw:w≠.dW)(B:hW g q qc qf gv lr hs fs)(O1:jr hs)(n2:q≠qc)(n3:qf≠qc)(hn:t8 hs (bR w) v u≠""->∀g',Ex g g'->Q (.tup [.str (t8 hs (bR w) v u),.aX]) g')(h:t8 hs (bR w) v u=""->∀g' r,Gr qc g g'->g.length<=r->g'[r]?=some (.lst (c7 (numsOf hs (bR w) u)))->hW g' q qc qf gv lr (j3 hs (numsOf hs (bR w) u) (bR w) v) fs->Q (.tup [.str "",.ref r]) g'):b0 T (k+2) 202 [.ref q,.str w.s,.int v,.int u] g Q E:=by
 have hz:=O1.len;refine call_of hT.rJ rfl ?_;dsimp[ur,b9,List.replicate];walk_at"";refine Z5 (T2 b8 (X0 hw).1 ?_);rw[(X0 hw).2];walk_at"";have e1:=Ex.snoc g (O.lst [D.str "lower",D.str "upper"]);refine V4 (k:=k) hT (B.at e1) O1.inc (by omega) λg2 r2 e2 l2 jO=>?_;rw[pJ hw] at jO;have jn:=e1.trans e2;walk_at"";have fin:∀g3,Ex g g3->(numsOf hs (bR w) v=[]\/numsOf hs (bR w) u=[])->Q (.tup [.str "NoDie",.aX]) g3:=λg3 e3 z=>by
  have:t8 hs (bR w) v u="NoDie":=by unfold t8;rw[aJ z]
  rw[this] at hn;exact hn (by decide +kernel) _ e3
 have li:∀l:List Nat,(c7 l).length=l.length:=λl=>by simp[c7]
 rw[li];by_cases d2:numsOf hs (bR w) u=[]
 ·refine iY (by rw[d2];rfl) ?_;walk_at"";exact fin _ jn (.inr d2)
 refine hJ (aw (λz=>d2 (bq (by omega)))) ?_;walk_at"";refine V4 (k:=k) hT (B.at jn) O1.inc (by omega) λg3 r3 e3 l3 my=>?_;rw[pJ hw] at my;have iQ:=jn.trans e3;walk_at"";rw[li];by_cases d1:numsOf hs (bR w) v=[]
 ·refine iY (by rw[d1];rfl) ?_;walk_at"";exact fin _ iQ (.inl d1)
 refine hJ (aw (λz=>d1 (bq (by omega)))) ?_;walk_at"";refine if2 (λnZ=>?_) (λnZ=>?_)
 ·have:t8 hs (bR w) v u="SameOne":=by unfold t8;rw[aB (λz=>z.elim d1 d2),aJ nZ]
  rw[this] at hn;walk_at"";exact hn (by decide +kernel) _ iQ
 ·have this:t8 hs (bR w) v u="":=by unfold t8;rw[aB (λz=>z.elim d1 d2),aB nZ]
  have lc:=v9 B.c;have B3:=B.at iQ;have Az:=e3.at jO;have l1:=e1.len;walk_at"";refine Di (k:=k) (a:=r2) (x:=w.s) (v:=v) hT B3 O1.inc (by omega) Az (λn hn=>O2 hn) (by omega) n2 n3 (λ_=>rfl) (λ_=>rfl) rfl (λ_=>rfl) (λ_=>rfl) (λg4 y G4 B4=>?_) (λz=>absurd z d2);rw[pJ hw] at B4
  try show wpS _ _ _ _ _ _
  walk_at"";exact h this _ _ ⟨by have:=iQ.len;have:=G4.len;omega,λi h1 h2=>(G4.old i h1 (aq h2 iQ.len)).trans (iQ.old i h2)⟩ (by omega) (G4.at (by omega) Az) B4
theorem Ra(hT:TD T)(ho:PyData.strOk x=true)(h1:x≠"lower")(h2:x≠"upper")(h:∀g',Ex g g'->Q (.tup [.str "BadSide",.aX]) g'):b0 T (k+2) 202 [.ref q,.str x,.int v,.int u] g Q E:=by
 refine call_of hT.rJ rfl ?_;dsimp[ur,b9,List.replicate];walk_at"";refine Z5 (T2 b8 ho ?_);rw[aw h1,aw h2];walk_at"";refine iY rfl ?_;walk_at"";exact h _ (Ex.snoc _ _)
theorem Rb(hT:TD T)(ho:PyData.strOk x=true)(h1:x≠"lower")(h2:x≠"upper")(h:∀g',Ex g g'->Q (.tup [.str "BadSide",.aX]) g'):b0 T (k+2) 203 [.ref q,.str x,.int v,.ref a] g Q E:=by
 refine call_of hT.rH rfl ?_;dsimp[uu,b9,List.replicate];walk_at"";refine Z5 (T2 b8 ho ?_);rw[aw h1,aw h2];walk_at"";refine iY rfl ?_;walk_at"";exact h _ (Ex.snoc _ _)
theorem TF{p:Nat->Bool}{j:Nat}(hj:j<n)(hp:p j=true)(hl:∀i,i<j->p i=false):((List.range n).filter p)[0]?=some j:=by
 rw[<- List.head?_eq_getElem?,List.head?_filter,List.find?_range_eq_some];exact⟨hp,dt.mpr hj,λi hi=>by rw[hl i hi];rfl⟩
theorem Xc(ns:List Int):(ST.f9 [] ns).length<=ns.length:=by simpa using ST.F4 ns []
theorem FC(hT:TD T)(hw:w≠.dW)(B:hW g q qc qf gv lr hs fs)(O1:jr hs)(n2:q≠qc)(n3:qf≠qc)(ha:g[a]?=some (.lst (ns.map .int)))(hl:ns.length<=50)(n1:a≠qc){F:Int}(hF:mL (F2 hs (bR w)) F)(hn:t4 hs (bR w) v ns≠""->∀g',Ex g g'->Q (.tup [.str (t4 hs (bR w) v ns),.aX]) g')(h:t4 hs (bR w) v ns=""->∀g',Gr qc g g'->hW g' q qc qf gv lr (j3 hs (ns.map Int.toNat) (bR w) F) fs->Q (.tup [.str "",.int F]) g'):b0 T (k+2) 203 [.ref q,.str w.s,.int v,.ref a] g Q E:=by
 have hz:=O1.len;refine call_of hT.rH rfl ?_;dsimp[uu,b9,List.replicate];walk_at"";refine Z5 (T2 b8 (X0 hw).1 ?_);rw[(X0 hw).2];walk_at"";have e1:=Ex.snoc g (O.lst [D.str "lower",D.str "upper"]);refine V4 (k:=k) hT (B.at e1) O1.inc (by omega) λg2 r2 e2 l2 jO=>?_;rw[pJ hw] at jO;have jn:=e1.trans e2;have li:∀l:List Nat,(c7 l).length=l.length:=λl=>by simp[c7]
 walk_at"";rw[li];by_cases d1:numsOf hs (bR w) v=[]
 ·refine iY (by rw[d1];rfl) ?_;walk_at"";have:t4 hs (bR w) v ns="NoDie":=by unfold t4;rw[aJ d1]
  rw[this] at hn;exact hn (by decide +kernel) _ jn
 refine hJ (aw (λz=>d1 (bq (by omega)))) ?_;have a2:=jn.at ha;rw[M3] at jO;walk_at"";refine G9 (α:=Int) (a9 T _) (Bx (a9 T _) (a7 a2) (λQ q=>w_var (d:=.ref a) rfl q) _ ?_);refine⟨ns,D.int,λZ=>∃z1 z2,Z=[some (.ref r2),z1,z2],λ_=>true,λn=>.bl (decide (n∈(numsOf hs (bR w) v).map λn:Nat=>(n:Int))),λg' e=>v8 (a7 (e.at a2)),by omega,⟨none,none,rfl⟩,λn Z g' hp e sh=>?_,λg3 e3=>?_⟩
 ·obtain⟨z1,z2,rfl⟩:=sh;refine o8 (R9 ⟨rfl,e,jD ?_⟩);walk_at"";refine va (Y8 (a7 (e.at jO)) ?_);exact⟨rfl,e,_,_,rfl⟩
 rw[J7];have e4:=(jn.trans e3).trans (Ex.snoc g3 (O.lst (ns.map λn=>D.bl (decide (n∈(numsOf hs (bR w) v).map λn:Nat=>(n:Int))))));have Ig:=e3.trans (Ex.snoc g3 (O.lst (ns.map λn=>D.bl (decide (n∈(numsOf hs (bR w) v).map λn:Nat=>(n:Int))))));refine zh (v:=ns.all λn=>decide (n∈(numsOf hs (bR w) v).map λn:Nat=>(n:Int))) (a7 b8) (by rw[show ns.map (λn=>D.bl (decide (n∈(numsOf hs (bR w) v).map λn:Nat=>(n:Int))))=(ns.map λn=>decide (n∈(numsOf hs (bR w) v).map λn:Nat=>(n:Int))).map D.bl by rw[bj];rfl,yU,List.all_map];rfl) ?_;generalize g3++[O.lst (ns.map λn=>D.bl (decide (n∈(numsOf hs (bR w) v).map λn:Nat=>(n:Int))))]=g4 at *;walk_at"";cases jl:ns.all λn=>decide (n∈(numsOf hs (bR w) v).map λn:Nat=>(n:Int)) with
 |false =>
  refine iY rfl ?_;walk_at"";have:t4 hs (bR w) v ns="NoCoin":=by unfold t4;rw[aB d1,aB (by rw[jl];decide)]
  rw[this] at hn;exact hn (by decide +kernel) _ e4
 |true =>
  refine hJ rfl ?_;have a4:=e4.at ha;have r4:=Ig.at jO;have lm:(ns.map D.int).length=ns.length:=by simp
  have lr:(((numsOf hs (bR w) v).map λn:Nat=>(n:Int)).map D.int).length=(numsOf hs (bR w) v).length:=by simp
  have Yb:=Xc ns;have bad:F6 hs (bR w) v ns=true->Q (.tup [.str "BadList",.aX]) g4:=λz=>by
   have:t4 hs (bR w) v ns="BadList":=by unfold t4;rw[aB d1,aJ jl,aJ z]
   rw[this] at hn;exact hn (by decide +kernel) _ e4
  have good:F6 hs (bR w) v ns=false->t4 hs (bR w) v ns="":=λz=>by unfold t4;rw[aB d1,aJ jl,aB (by rw[z];decide)]
  walk_at"";rw[lm];by_cases c1:ns.length=0
  ·refine iY (aQ (by omega)) ?_;walk_at"";exact bad (by unfold F6;simp[c1])
  refine hJ (aw (by omega)) ?_;walk_at"";refine Et (a7 a4) (by omega) ?_;walk_at"";rw[lm];by_cases c2:(ST.f9 [] ns).length=ns.length
  ·refine hJ (aw (by omega)) ?_;walk_at"";rw[lm,lr];by_cases c3:ns.length=(numsOf hs (bR w) v).length
   ·refine iY (aQ (by omega)) ?_;walk_at"";exact bad (by unfold F6;simp[c3])
   refine hJ (aw (by omega)) ?_;have b1:F6 hs (bR w) v ns=false:=by
    unfold F6;rw[aw (by omega),aw (by omega),aw (by omega)]
    rfl
   have B4:=B.at e4;walk_at"";refine G9 (α:=Nat) (a9 T _) (NC (a9 T _) ?_);walk_at"";refine⟨1,12,rfl,rfl,⟨by decide,by decide,by decide,by decide⟩,List.range 11,λj=>.int (1+(j:Int)),λZ=>∃z2 z3,Z=[some (.ref q),some (.str w.s),z2,z3],λj=>decide (numsOf hs (bR w) (1+(j:Int))=[]),λj=>.int (1+(j:Int)),λ_ _=>Q8,by decide,⟨none,none,rfl⟩,λj Z g' hj e sh=>?_,λg5 e5=>?_⟩
   ·obtain⟨z2,z3,rfl⟩:=sh;refine o8 ?_
    try show da _ _ _ _ _ _
    walk_at"";refine V4 (k:=k) hT (B4.at e) O1.inc (by omega) λg6 r6 e6 l6 Hb=>?_;rw[pJ hw] at Hb;walk_at"";rw[li];have ee:decide (((numsOf hs (bR w) (1+(j:Int))).length:Int)=0)=decide (numsOf hs (bR w) (1+(j:Int))=[]):=decide_eq_decide.mpr ⟨λz=>bq (by omega),λz=>by rw[z];rfl⟩;refine⟨ee,e.trans e6,?_⟩;refine if2 (λ_=>?_) (λ_=>?_)
    ·walk_at"";exact⟨rfl,e.trans e6,_,_,rfl⟩
    ·exact⟨_,_,rfl⟩
   have HL:=hF.le;have XR:=hF.pos;have dl:(F2 hs (bR w)).length<=9:=by simpa[F2,i8] using hz
   have ff:=TF (p:=λj:Nat=>decide (numsOf hs (bR w) (1 + (j:Int))=[])) (n:=11) (j:=(F - 1).toNat) (by omega) (aQ (by
    rw[show 1+(((F-1).toNat:Nat):Int)=F by omega];exact mO λz=>hF.no (yV.mpr z))) (λi hi=>aw (yV.mp (hF.all _ (by omega) (by omega))))
   have e6:=e5.trans (Ex.snoc g5 (O.lst (((List.range 11).filter λj:Nat=>decide (numsOf hs (bR w) (1+(j:Int))=[])).map λj:Nat=>D.int (1+(j:Int)))));walk_at"";refine Q7 (d:=.int F) (a7 b8) (V5 (j:=0) (by rw[aA,ff];simp;omega)) ?_;generalize g5++[O.lst (((List.range 11).filter λj:Nat=>decide (numsOf hs (bR w) (1+(j:Int))=[])).map λj:Nat=>D.int (1+(j:Int)))]=g6 at *;have lQ:=e4.trans e6;have qR:∀n∈ns,∃j∈numsOf hs (bR w) v,n=(j:Nat):=λn hx=>by
    obtain⟨j,hj,e⟩:=aF.mp (aS (bZ.mp jl n hx));exact⟨j,hj,e.symm⟩
   have en:ns.map D.int=c7 (ns.map Int.toNat):=by
    rw[c7,bj];refine bP λn hx=>?_;obtain⟨j,_,rfl⟩:=qR n hx;simp
   have a6:=lQ.at ha;rw[en] at a6;walk_at"";refine Di (k:=k) (a:=a) (x:=w.s) (v:=F) hT (B.at lQ) O1.inc (by omega) a6 (λn hx=>?_) n1 n2 n3 (λ_=>rfl) (λ_=>rfl) rfl (λ_=>rfl) (λ_=>rfl) (λg7 y G7 B7=>?_) (λz=>?_)
   ·obtain⟨i,hi,rfl⟩:=aF.mp hx;obtain⟨j,hj,rfl⟩:=qR i hi;exact O2 (by simpa using hj)
   ·rw[pJ hw] at B7
    try show wpS _ _ _ _ _ _
    walk_at"";exact h (good b1) _ ⟨by have:=lQ.len;have:=G7.len;omega,λi h1 h2=>(G7.old i h1 (aq h2 lQ.len)).trans (lQ.old i h2)⟩ B7
   ·have:ns.length=0:=by simpa using dM List.length z
    exact absurd this c1
  ·refine iY (aQ (by omega)) ?_;walk_at"";exact bad (by unfold F6;simp[c2])
end
def PV:aM:=⟨1,1,(.seq (.ij (.dA (.lit (.bl true))) (.seq .pass .pass)) .pass)⟩
def VP:aM:=⟨3,3,(.seq (.ret (.dk (bN (.cmp .NotEq) (.call 91 (dg aD aO)) aD) (bN (.cmp .Is) (.call 101 (dE ak aD aO)) (.lit .aX)))) .pass)⟩
def TX:aM:=⟨2,2,(.seq (.ret (.comp [0,1] 4 (.one 3) (.fc (cg (.fld "size") ak)) (.dA (.call 115 (dE ak aD bo))) bo)) .pass)⟩
def RN:aM:=⟨1,5,(.seq (.set 1 (.prim (.jL 0) .nil)) (.seq (.set 2 (.prim .lst .nil)) (.seq (.dU (.one 3) (.fc (bN (.bin .Add) (cg (.fld "full") ak) (aR 1))) (.seq (.ifs (cA .In bo aD) (.seq (.expr (.dS .append aO (cy bo))) (.seq (.dU (.one 4) (.ei (.call 116 (dg ak bo))) (.seq (.expr (.dS .kd aD (cy (.call 91 (dg bo cC))))) .pass)) .pass)) .pass) .pass)) (.seq (.ret aO) .pass))))⟩
def Lx:aM:=⟨1,3,(.seq (.set 1 (.prim .N8 .nil)) (.seq (.dU (.one 2) (.mq (.call 117 (cy ak))) (.seq (.ifs (cA .Eq aO (cg (.fld "full") ak)) (.seq (.cF aD aO (aR 1)) .pass) (.seq (.cF aD aO (cg .sum (.comp [2,1] 4 (.one 3) (.ei (.call 116 (dg ak aO))) .no (br aD (.call 91 (dg ak bo)))))) .pass)) .pass)) (.seq (.ret aD) .pass)))⟩
def Lv:aM:=⟨4,7,(.seq (.set 4 (.call 116 (dg ak aO))) (.seq (.set 5 bo) (.seq (.set 6 (aR 0)) (.seq (.ij (cA .GtE eK (br aD (.call 91 (dg aO (br cC fJ))))) (.seq (.iR 5 .mr (br aD (.call 91 (dg aO (br cC fJ))))) (.seq (.iR 6 .iadd (aR 1)) .pass))) (.seq (.ret (bN .tup (br cC fJ) eK)) .pass)))))⟩
def RL:aM:=⟨3,7,(.seq (.set 3 (.prim .lst .nil)) (.seq (.set 4 (aR 0)) (.seq (.set 5 aO) (.seq (.ij (cA .NotEq cC (cg (.fld "full") ak)) (.seq (.kJ (.many [6,5]) (.call 122 (mh ak aD cC eK))) (.seq (.expr (.dS .append bo (cy fJ))) (.seq (.set 4 (.call 91 (dg cC fJ))) .pass)))) (.seq (.ret bo) .pass)))))⟩
def UO:aM:=⟨1,2,(.seq (.set 1 (.call 121 (cy ak))) (.seq (.ifs (cA .Eq (br aD (aR 0)) (aR 0)) (.seq (.ret (.lit .aX)) .pass) .pass) (.seq (.ret (.call 123 (dE ak aD (aR 0)))) .pass)))⟩
def UP:aM:=⟨3,3,(.seq (.ret (.call 124 (cy (.call 99 (dE ak aD aO))))) .pass)⟩
def VQ:aM:=⟨3,3,(.seq (.ret (br (.call 121 (cy (.call 99 (dE ak aD aO)))) (aR 0))) .pass)⟩
def UQ:aM:=⟨1,2,(.seq (.set 1 (.call 117 (cy ak))) (.seq (.ifs (cA .Eq (br aD (cg (.un .USub) (aR 1))) (cg (.fld "full") ak)) (.seq (.ret (.lit .aX)) .pass) .pass) (.seq (.ret aD) .pass)))⟩
def VR:aM:=⟨3,3,(.seq (.ret (.call 129 (cy (.call 99 (dE ak aD aO))))) .pass)⟩
def UN:aM:=⟨3,3,(.seq (.ifs (cA .Eq aD (bQ "coin")) (.seq (.expr (.call 83 (dg ak aO))) .pass) (.seq (.expr (.call 75 (dE ak aD aO))) .pass)) .pass)⟩
def TR:aM:=⟨4,4,(.seq (.ifs (cA .NotIn aD (.lit (.tup [(.str "coin"),(.str "lower"),(.str "upper")]))) (.seq (.raise "BadSide" (cy (bQ "asked about are coins, lower dies or upper dies"))) .pass) .pass) (.seq (.expr (.call 136 (dE ak aD aO))) (.seq (.expr (.call 136 (dE ak aD bo))) (.seq (.ifs (cA .Eq aO bo) (.seq (.raise "SameOne" (cy (bQ "two unlike ones are asked about"))) .pass) .pass) .pass))))⟩
def IZ:aM:=⟨6,10,(.seq (.expr (.call 98 (dE ak aD aO))) (.seq (.expr (.call 137 (mh ak bo cC eK))) (.seq (.set 6 (.make "Bounds" 113 (dE ak aD (bN (.bin .Add) aO (cg .lst (.prim .tup (dE bo cC eK))))))) (.seq (.set 7 (.make "Bounds" 113 (dE ak aD (bN (.bin .Add) aO (cg .lst (.prim .tup (dE bo eK cC))))))) (.seq (.set 8 (.call 124 (cy fJ))) (.seq (.set 9 (.call 124 (cy jk))) (.seq (.ifs (.dk (cA .Is nW (.lit .aX)) (cA .Is nV (.lit .aX))) (.seq (.raise "NoOrder" (cy (bQ "there is no order"))) .pass) .pass) (.seq (.ifs (cA .Is nV (.lit .aX)) (.seq (.ret (bN .tup (bQ "first") (.call 129 (cy jk)))) .pass) .pass) (.seq (.ifs (cA .Is nW (.lit .aX)) (.seq (.ret (bN .tup (bQ "later") (.call 129 (cy fJ)))) .pass) .pass) (.seq (.ret (.prim .tup (dE (bQ "either") nW nV))) .pass))))))))))⟩
def Lw:aM:=⟨6,6,(.seq (.ret (br (.call 138 (xA ak aD aO bo cC eK)) (aR 0))) .pass)⟩
def PU:aM:=⟨2,3,(.seq (.ifs (cA .NotIn aD (br ak (bQ "coins"))) (.seq (.ret (bN .tup (bQ "NoCoin") (.lit .aX))) .pass) .pass) (.seq (.dU (.one 2) (.ei (cg .eh (cg .list (br ak (bQ "facts"))))) (.seq (.ifs (cA .In aD (br (br ak (bQ "facts")) aO)) (.seq (.expr (.dS .pop (br ak (bQ "facts")) (cy aO))) .pass) .pass) .pass)) (.seq (.ret (bN .tup (bQ "") (.dS .pop (br ak (bQ "coins")) (cy aD)))) .pass)))⟩
def IX:aM:=⟨3,3,(.seq (.ifs (.gK (cA .NotIn aD (br ak (bQ "coins"))) (cA .NotIn aO (br ak (bQ "coins")))) (.seq (.ret (bN .tup (bQ "NoCoin") (.lit .aX))) .pass) .pass) (.seq (.ifs (cA .Eq aD aO) (.seq (.ret (bN .tup (bQ "SameOne") (.lit .aX))) .pass) .pass) (.seq (.cF ak (bQ "learnt") (bN (.bin .Add) (br ak (bQ "learnt")) (aR 1))) (.seq (.cF (br ak (bQ "facts")) (br ak (bQ "learnt")) (bN .tup aD aO)) (.seq (.ret (bN .tup (bQ "") (br ak (bQ "learnt")))) .pass)))))⟩
def RV:aM:=⟨1,2,(.seq (.expr .no) (.seq (.ret (.comp [1] 5 (.many [2,3,4]) (.ei (.bp "facts" [("Cabinet",224)] ak .nil)) .no (.prim .tup (dE (bQ "coin") (br ak bo) (br ak cC))))) .pass))⟩
def UJ:aM:=⟨2,2,(.seq (.expr (.bp "check_number" [("Cabinet",209)] ak (cy aD))) (.seq (.expr .no) (.seq (.ret (.dS .pop (cg (.fld "held") ak) (cy aD))) .pass)))⟩
def RK:aM:=⟨2,2,(.seq (.ifs (.gK (.cJ (.dA (.call 38 (cy aD)))) (cA .NotIn aD (cg (.fld "claims") ak))) (.seq (.raise "NoFact" (cy (bQ "no fact has that number"))) .pass) .pass) (.seq (.ret (.dS .pop (cg (.fld "claims") ak) (cy aD))) .pass))⟩
def Ru:aM:=⟨2,4,(.seq (.set 2 (.call 125 (dE (.bp "coins" [("Cabinet",223)] ak .nil) aD (.bp "fact_rules" [("Cabinet",213)] ak .nil)))) (.seq (.ifs (cA .Is aO (.lit .aX)) (.seq (.ret (.lit .aX)) .pass) .pass) (.seq (.set 3 (.bp "numbers" [("Cabinet",221)] ak .nil)) (.seq (.ret (.comp [3] 3 (.one 2) (.ei aO) .no (br ak aO))) .pass))))⟩
def Vj:aM:=⟨2,2,(.seq (.ret (.call 126 (dE (.bp "coins" [("Cabinet",223)] ak .nil) aD (.bp "fact_rules" [("Cabinet",213)] ak .nil)))) .pass)⟩
def Rv:aM:=⟨2,2,(.seq (.ret (.call 132 (dE (.bp "coins" [("Cabinet",223)] ak .nil) aD (.bp "fact_rules" [("Cabinet",213)] ak .nil)))) .pass)⟩
def Vl:aM:=⟨4,5,(.seq (.expr (.call 42 (cy aD))) (.seq (.expr (.bp "check_pair" [("Cabinet",210)] ak (dg aO bo))) (.seq (.set 4 (.bp "numbers" [("Cabinet",221)] ak .nil)) (.seq (.ret (.call 139 (xA (.bp "coins" [("Cabinet",223)] ak .nil) aD (.bp "fact_rules" [("Cabinet",213)] ak .nil) (bQ "coin") (.dS .index cC (cy aO)) (.dS .index cC (cy bo))))) .pass))))⟩
def RJ:aM:=⟨1,1,(.seq (.expr (.call 41 (cy (aR 0)))) .pass)⟩
def Vm:aM:=⟨1,1,(.seq (.expr (.call 41 (cy (aR 1)))) .pass)⟩
def vd:aM:=⟨2,4,(.seq (.set 2 (br aD (aR 0))) (.seq (.ifs (cA .Eq aO (bQ "put")) (.seq (.ret (.call 197 (dg ak (br aD (aR 1))))) .pass) .pass) (.seq (.ifs (cA .Eq aO (bQ "right")) (.seq (.ifs (cA .NotIn (br aD (aR 1)) (br ak (bQ "coins"))) (.seq (.ret (bN .tup (bQ "NoCoin") (.lit .aX))) .pass) .pass) (.seq (.ifs (.cJ (.dA (.call 13 (cy (br aD (aR 2)))))) (.seq (.ret (bN .tup (bQ "BadCoin") (.lit .aX))) .pass) .pass) (.seq (.set 3 (br (br ak (bQ "coins")) (br aD (aR 1)))) (.seq (.cF (br ak (bQ "coins")) (br aD (aR 1)) (br aD (aR 2))) (.seq (.ret (bN .tup (bQ "") bo)) .pass))))) .pass) (.seq (.ifs (cA .Eq aO (bQ "out")) (.seq (.ret (.call 198 (dg ak (br aD (aR 1))))) .pass) .pass) (.seq (.ifs (cA .Eq aO (bQ "tell")) (.seq (.ret (.call 199 (dE ak (br aD (aR 1)) (br aD (aR 2))))) .pass) .pass) (.seq (.ifs (cA .Eq aO (bQ "untell")) (.seq (.ifs (cA .NotIn (br aD (aR 1)) (br ak (bQ "facts"))) (.seq (.ret (bN .tup (bQ "NoFact") (.lit .aX))) .pass) .pass) (.seq (.ret (bN .tup (bQ "") (.dS .pop (br ak (bQ "facts")) (cy (br aD (aR 1)))))) .pass)) .pass) (.seq (.ifs (cA .Eq aO (bQ "one")) (.seq (.ret (.call 202 (mh ak (br aD (aR 1)) (br aD (aR 2)) (br aD (aR 3))))) .pass) .pass) (.seq (.ret (.call 203 (mh ak (br aD (aR 1)) (br aD (aR 2)) (br aD (aR 3))))) .pass))))))))⟩
def O7:aM:=⟨2,3,(.seq (.set 2 (br aD (aR 0))) (.seq (.ifs (cA .Eq aO (bQ "put")) (.seq (.ret (.bp "put" [("Cabinet",214)] ak (cy (br aD (aR 1))))) .pass) .pass) (.seq (.ifs (cA .Eq aO (bQ "right")) (.seq (.ret (.bp "right" [("Cabinet",215)] ak (dg (br aD (aR 1)) (br aD (aR 2))))) .pass) .pass) (.seq (.ifs (cA .Eq aO (bQ "out")) (.seq (.ret (.bp "out" [("Cabinet",216)] ak (cy (br aD (aR 1))))) .pass) .pass) (.seq (.ifs (cA .Eq aO (bQ "tell")) (.seq (.ret (.bp "tell" [("Cabinet",217)] ak (dg (br aD (aR 1)) (br aD (aR 2))))) .pass) .pass) (.seq (.ifs (cA .Eq aO (bQ "untell")) (.seq (.ret (.bp "untell" [("Cabinet",218)] ak (cy (br aD (aR 1))))) .pass) .pass) (.seq (.ifs (cA .Eq aO (bQ "one")) (.seq (.ret (.bp "one_die" [("Cabinet",219)] ak (dE (br aD (aR 1)) (br aD (aR 2)) (br aD (aR 3))))) .pass) .pass) (.seq (.ret (.bp "two_dies" [("Cabinet",220)] ak (dE (br aD (aR 1)) (br aD (aR 2)) (cg .list (br aD (aR 3)))))) .pass))))))))⟩
def Y3:aM:=⟨2,3,(.seq (.set 2 (cg .eh (cg .list (br aD (bQ "coins"))))) (.seq (.ifs (.gK (.cJ (.dA (.call 7 (dg (.bp "numbers" [("Cabinet",221)] ak .nil) aO)))) (.cJ (.dA (.call 7 (dg (.bp "coins" [("Cabinet",223)] ak .nil) (.call 196 (cy aD))))))) (.seq (.ret (.lit (.bl false))) .pass) .pass) (.seq (.ifs (.cJ (.dA (cg .all (.comp [1,0] 4 (.one 3) (.ei aO) .no (.call 7 (dg (.bp "coin" [("Cabinet",222)] aD (cy bo)) (br (br ak (bQ "coins")) bo))))))) (.seq (.ret (.lit (.bl false))) .pass) .pass) (.seq (.ret (.call 7 (dg (.bp "facts" [("Cabinet",224)] ak .nil) (.comp [1] 3 (.one 2) (.ei (cg .eh (cg .list (br aD (bQ "facts"))))) .no (bN (.bin .Add) (cg .tup aO) (br (br ak (bQ "facts")) aO)))))) .pass))))⟩
def zI:aM:=⟨2,2,(.seq (.W7 (.seq (.ret (bN .lst (bQ "") (.call 205 (dg ak aD)))) .pass) [("BadSide",(.prim .lst (.cons (.lit (.str "BadSide")) (.cons (.lit .aX) .nil)))),("NoDie",(.prim .lst (.cons (.lit (.str "NoDie")) (.cons (.lit .aX) .nil)))),("SameOne",(.prim .lst (.cons (.lit (.str "SameOne")) (.cons (.lit .aX) .nil)))),("NoCoin",(.prim .lst (.cons (.lit (.str "NoCoin")) (.cons (.lit .aX) .nil)))),("BadList",(.prim .lst (.cons (.lit (.str "BadList")) (.cons (.lit .aX) .nil))))]) .pass)⟩
def pW:aM:=⟨2,6,(.seq (.set 2 (.call 29 (cy ak))) (.seq (.set 3 (.call 232 (dE ak aD aO))) (.seq (.ifs (cA .Eq (.call 4 (dg ak (aR 2))) (aR 0)) (.seq (.ret (.prim .tup (mh (bQ "one") aO bo (.ite (cA .Eq (.call 4 (dg ak (aR 5))) (aR 0)) bo (.call 232 (dE ak aD aO)))))) .pass) .pass) (.seq (.set 4 (.comp [0] 3 (.one 2) (.ei (.call 201 (dE aD aO bo))) (cA .Gt (.call 4 (dg ak (aR 3))) (aR 0)) aO)) (.seq (.set 5 (.call 4 (dg ak (aR 6)))) (.seq (.ifs (cA .Eq eK (aR 0)) (.seq (.set 4 (bN (.bin .Add) cC (cg .lst (.call 37 (dg ak (cg .eh (cg .list (br aD (bQ "coins"))))))))) .pass) .pass) (.seq (.ifs (cA .Eq eK (aR 1)) (.seq (.set 4 (bN (.bin .Add) (bN (.bin .Add) (bN (.jg true false) cC (aR 1)) (bN (.jg false true) cC (aR 1))) (bN (.jg true false) cC (cg (.un .USub) (aR 1))))) .pass) .pass) (.seq (.ret (.prim .tup (mh (bQ "two") aO bo cC))) .pass))))))))⟩
def oR:aM:=⟨1,8,(.seq (.set 1 (.call 3 (cy ak))) (.seq (.set 2 (.make "Cabinet" 208 .nil)) (.seq (.set 3 (.call 195 .nil)) (.seq (.dU (.one 4) (.fc (bN (.bin .Add) (aR 2) (.call 4 (dg aD (aR 8))))) (.seq (.set 5 (.call 22 (cy aD))) (.seq (.expr (.bp "put" [("Cabinet",214)] aO (cy eK))) (.seq (.expr (.call 197 (dg bo eK))) .pass)))) (.seq (.dU (.one 4) (.fc (bN (.bin .Add) (aR 6) (.call 4 (dg aD (aR 15))))) (.seq (.set 6 (.call 233 (dg aD bo))) (.seq (.set 7 (.call 49 (dg aO fJ))) (.seq (.ifs (.cJ (.dA (.call 7 (dg jk (cg .list (.call 204 (dg bo fJ))))))) (.seq (.ret (.lit (.bl false))) .pass) .pass) (.seq (.ifs (.dA (bN .isin (br jk (aR 1)) (.lit (.ty "list")))) (.seq (.expr (.dS .clear (br jk (aR 1)) .nil)) .pass) .pass) (.seq (.ifs (.cJ (.dA (.call 207 (dg aO bo)))) (.seq (.ret (.lit (.bl false))) .pass) .pass) .pass)))))) (.seq (.ret (.lit (.bl true))) .pass))))))⟩
structure kB(T:Nat->Option aM):Prop where
 tc:TC T
 td:TD T
 h3:T 3=some uv
 h6:T 6=some sW
 h7:T 7=some A6
 xf:T 22=some Y4
 wW:T 29=some uw
 rG:T 204=some vd
 rF:T 205=some O7
 wY:T 232=some yz
 xl:T 207=some Y3
 HP:T 49=some zI
 wX:T 233=some pW
 HV:T 11=some oR
theorem zD(l:List α)(lo hi:Option Int):(cut l lo hi).length<=l.length:=by
 unfold cut;rw[cX,gw];omega
theorem Dp(ms:List Int)(hz:ms.length<=1000):p9 g (n+1) (.tup (ms.map .int)) (.tup (ms.map .int)):=by
 refine .tup rfl (λi x y hx hy=>?_) (by simpa using hz);rw[hx] at hy;cases hy;rw[aA,ae] at hx;obtain⟨j,_,rfl⟩:=hx;exact .int _
theorem Dn(h:kn c):p9 g 2 c.d c.d:=by
 have h1:=h.l8;have h2:=h.u8;refine .tup rfl (λi x y hx hy=>?_) (by simp);rw[hx] at hy;cases hy
 match i,hx with
 |0,hx=>cases hx;exact .int _
 |1,hx=>cases hx;exact Dp _ (by omega)
 |2,hx=>cases hx;exact .int _
 |3,hx=>cases hx;exact Dp _ (by omega)
 |4,hx=>cases hx;exact .int _
 |i+5,hx=>simp at hx
section
variable{T:Nat->Option aM}{d:Nat}{c:Nat}
theorem TQ(O1:jr hs)(ha:g[a]?=some (.lst ((i8 hs).map d8.d)))(hb:g[b]?=some (.lst ((i8 hs).map d8.d))):p9 g 3 (.ref a) (.ref b):=by
 refine .lst ha hb rfl (λi x y hx hy=>?_) (by have:=O1.len;simp[i8];omega);rw[hx] at hy;cases hy;rw[aA,ae] at hx;obtain⟨c,hc,rfl⟩:=hx;obtain⟨p,hp,rfl⟩:=aF.mp (bc hc);exact Dn (O1.good p hp)
theorem Dr(ha:g[a]?=some (.lst (c7 l)))(hb:g[b]?=some (.lst (c7 l)))(hz:l.length<=1000):p9 g 1 (.ref a) (.ref b) :=
 Dq ha hb (λx hx=>by obtain⟨i,_,rfl⟩:=aF.mp hx;exact .inl ⟨_,rfl⟩) (by simpa[c7] using hz)
theorem Ti(hT:kB T)(C:iS g m hd cl lc lf hs [])(B:hW g q qc qf gv lr hs [])(O1:jr hs)(h:∀g',Ex g g'->Q (.bl true) g'):b0 T (k+6) 207 [.ref m,.ref q] g Q E:=by
 have hz:=O1.len;have nl:=X8 hs;refine call_of hT.xl rfl ?_;dsimp[Y3,b9,List.replicate];walk_at"";refine u3 B.b rfl P4 ?_;walk_at"";refine sE B.c (by simp[gc];omega) ?_;rw[S7];walk_at"";refine F8 b8 O1.inc (by omega) ?_;have e1:=(Ex.snoc g (O.lst (c7 (nums hs)))).trans (Ex.snoc _ (O.lst (c7 (nums hs))));have s1:=b8 (g:=g++[O.lst (c7 (nums hs))]) (o:=O.lst (c7 (nums hs)));generalize (g++[O.lst (c7 (nums hs))]).length=sr at *;generalize (g++[O.lst (c7 (nums hs))])++[O.lst (c7 (nums hs))]=g1 at *;have C1:=C.at e1;have B1:=B.at e1;walk_at"";refine m8 C1.o rfl rfl ?_;walk_at"";refine X9 (k:=k+4) hT.tc C1 O1.inc (by omega) ?_;walk_at"";have e2:=Ex.snoc g1 (O.lst (c7 (nums hs)));refine N4 hT.h6 hT.h7 1 (k:=k+2) (Dr b8 (e2.at s1) (by omega)) λg3 e3=>?_;have iQ:=e2.trans e3;have C3:=C1.at iQ;have B3:=B1.at iQ;walk_at"";refine m8 C3.o rfl rfl ?_;walk_at"";refine w5 (k:=k+3) hT.tc C3 O1.inc (by omega) λg4 r4 e4 _ oh=>?_;walk_at"";refine DQ (k:=k+4) hT.td (B3.at e4) O1.inc (by omega) λg5 r5 e5 _ tT=>?_;walk_at"";refine N4 hT.h6 hT.h7 3 (k:=k) (TQ O1 (e5.at oh) tT) λg6 e6=>?_;have lQ:=iQ.trans (e4.trans (e5.trans e6));have C6:=C1.at lQ;have B6:=B1.at lQ;have s6:=lQ.at s1;walk_at"";refine G9 (α:=Nat×d8) (a9 T _) (Bx (a9 T _) (a7 s6) (λQ q=>w_var rfl q) _ ?_);refine⟨hs,λp=>.int (p.1:Nat),λZ=>∃z1 z2,Z=[some (.ref q),some (.ref m),z1,z2],λ_=>true,λ_=>.bl true,λg' e=>v8 (a7 ?_),by omega,⟨none,none,rfl⟩,λp Z g' hp e sh=>?_,λg7 e7=>?_⟩
 ·rw[show hs.map (λp=>D.int (p.1:Nat))=c7 (nums hs) by simp[c7,nums]];exact e.at s6
 ·obtain⟨z1,z2,rfl⟩:=sh;refine o8 (R9 ⟨rfl,e,jD ?_⟩);have C7:=C6.at e;have B7:=B6.at e;walk_at"";refine m8 C7.o rfl rfl ?_;walk_at"";refine Vy (k:=k+2) hT.tc C7 O1.inc hp ?_;walk_at"";refine u3 B7.b rfl P4 ?_;walk_at"";refine u3 B7.c rfl (u9 (f:=d8.d) O1.inc hp) ?_;walk_at"";refine N4 hT.h6 hT.h7 2 (k:=k+1) (Dn (O1.good p hp)) λg8 e8=>?_;exact⟨rfl,e.trans e8,_,_,rfl⟩
 rw[J7];refine zh (v:=true) (a7 b8) ?_ ?_
 ·rw[show hs.map (λ_=>D.bl true)=(hs.map λ_=>true).map D.bl by rw[bj];rfl,yU];simp
 have e8:=lQ.trans (e7.trans (Ex.snoc g7 (O.lst (hs.map λ_=>D.bl true))));generalize g7++[O.lst (hs.map λ_=>D.bl true)]=g8 at *;have C8:=C1.at e8;have B8:=B1.at e8;walk_at"";refine m8 C8.o rfl rfl ?_;walk_at"";refine VD (k:=k+3) hT.tc C8 List.Pairwise.nil (by decide) λg9 r9 e9 _ Ha=>?_;have B9:=B8.at e9;walk_at"";refine G9 (α:=Nat) (a9 T _) (jM (a9 T _) ?_);walk_at"";refine u3 B9.b rfl OQ ?_;walk_at"";refine sE B9.f (by decide) ?_;rw[TM];walk_at"";refine F8 (l:=[]) b8 List.Pairwise.nil (by decide) ?_;have Io:=(Ex.snoc g9 (O.lst (c7 []))).trans (Ex.snoc _ (O.lst (c7 [])));refine⟨_,_,rfl,a7 b8,[],λp=>.int (p:Nat),λZ=>∃z1 z2,Z=[some (.ref q),z1,z2],λ_=>true,λ_=>.aX,λg' e=>v8 (a7 (e.at b8)),by decide,⟨none,none,rfl⟩,λp Z g' hp=>(by cases hp),λIh Im=>?_⟩;have jn:=(Io.trans Im).trans (Ex.snoc Ih (O.lst []));walk_at"";refine N4 hT.h6 hT.h7 1 (k:=k+2) (Dq (l:=[]) (jn.at Ha) b8 (λx hx=>by cases hx) (by decide)) λXU iQ=>?_;exact h _ (((e1.trans e8).trans e9).trans (jn.trans iQ))
theorem DB(hT:kB T)(B:hW g q qc qf gv lr hs fs)(O1:jr hs)(D0:j4 g d)(tX:d<q)(h:∀(v:Int) g',j4 g' d->Gr d g g'->Q (.int v) g'):b0 T (k+5) 232 [.ref d,.ref q,.str x] g Q E:=by
 have hz:=O1.len;refine call_of hT.wY rfl ?_;dsimp[yz,b9,List.replicate];have rest:aP (b0 T (k+4)) (.call 37 (.cons (.var 0) (.cons (.prim .sset (.cons (.comp [3] 3 (.one 2) (.ei (.call 196 (.cons (.var 1) .nil))) .no (.prim .ix (.cons (.var 2) (.cons (.var 0) .nil)))) .nil)) .nil))) [some (.ref d),some (.ref q),some (.str x),some (.int (fX x))] g Q E:=by
  walk_at"";refine G9 (α:=d8) (a9 T _) (jM (a9 T _) ?_);walk_at"";refine DQ (k:=k+3) hT.td B O1.inc (by omega) λg1 r1 e1 l1 mY=>?_;refine⟨r1,_,rfl,a7 mY,i8 hs,d8.d,λZ=>∃z1 z2,Z=[some (.int (fX x)),z1,z2],λ_=>true,λc=>.int (E6 (fX x) c),λg' e=>v8 (a7 (e.at mY)),by simp[i8];omega,⟨none,none,rfl⟩,λc Z g' hp e sh=>?_,λg2 e2=>?_⟩
  ·obtain⟨z1,z2,rfl⟩:=sh;refine o8 (R9 ⟨rfl,e,jD ?_⟩);walk_at"";exact nA (sO (BX x) c) ⟨rfl,e,_,_,rfl⟩
  rw[J7];have e3:=(e1.trans e2).trans (Ex.snoc g2 (O.lst ((i8 hs).map λc=>D.int (E6 (fX x) c))));refine Jo (ns:=(i8 hs).map (E6 (fX x))) (a7 (by rw[bj];exact b8)) (by simp[i8];omega) ?_;walk_at"";have e4:=e3.trans (Ex.snoc _ (O.lst ((n9 ((i8 hs).map (E6 (fX x)))).map .int)));have dl:=D0.lt;refine Fh (k:=k) hT.td b8 (by have:=e3.len;omega) (aL (ze _) (by simp[i8];omega)) (e4.draw D0) λv g5 D5 G5=>?_;exact h v g5 D5 ((e4.gr d).trans G5)
 walk_at"";refine if2 (λc1=>?_) (λc1=>?_)
 ·rw[show fX x=0 from aJ c1] at rest;exact w_lit rest
 ·rw[show fX x=2 from aB c1] at rest;exact w_lit rest
theorem MU(hT:kB T)(B:hW g q qc qf gv lr hs fs)(O1:jr hs)(D0:j4 g d)(q1:d<q)(q2:d<qc)(q3:d<qf)(h1:∀x v u g',PyData.strOk x=true->j4 g' d->Gr d g g'->Q (.tup [.str "one",.str x,.int v,.int u]) g')(h2:∀x v (ns:List Int) a g',PyData.strOk x=true->j4 g' d->Gr d g g'->g.length<=a->g'[a]?=some (.lst (ns.map .int))->ns.length<=50->Q (.tup [.str "two",.str x,.int v,.ref a]) g'):b0 T (k+6) 233 [.ref d,.ref q] g Q E:=by
 have hz:=O1.len;have h4:=hT.td.h4;have Bg:∀{g'},Gr d g g'->hW g' q qc qf gv lr hs fs:=λG=>⟨G.at (by omega) B.b,G.at (by omega) B.c,G.at (by omega) B.f⟩
 have dl:=D0.lt;refine call_of hT.wX rfl ?_;dsimp[pW,b9,List.replicate];walk_at"";refine MH (k:=k+3) h4 hT.wW D0 λx g1 ho D1 G1=>?_;walk_at"";refine DB (k:=k) hT (Bg G1) O1 D1 q1 λv g2 D2 G2=>?_;have Xe:=G1.trans G2;walk_at"";refine j9 (k:=k+4) h4 D2 (by decide) (by decide) λr g3 _ _ D3 G3=>?_;have vn:=Xe.trans G3;walk_at"";refine if2 (λ_=>?_) (λ_=>?_)
 ·walk_at"";refine j9 (k:=k+4) h4 D3 (by decide) (by decide) λr g4 _ _ D4 G4=>?_;have tB:=vn.trans G4;walk_at"";refine if2 (λ_=>?_) (λ_=>?_)
  ·walk_at"";exact h1 x v v g4 ho D4 tB
  ·walk_at"";refine DB (k:=k) hT (Bg tB) O1 D4 q1 λu g5 D5 G5=>?_;walk_at"";exact h1 x v u g5 ho D5 (tB.trans G5)
 walk_at"";refine sT (a9 T _) (jM (a9 T _) ?_);walk_at"";refine V4 (k:=k+4) hT.td (Bg vn) O1.inc (by omega) λg4 r4 e4 l4 oh=>?_;have tB:=vn.trans (e4.gr d);have D4:=e4.draw D3;have nl:(numsOf hs (fX x) v).length<=9:=aL (numsOf_len _ _ _) hz;have l3:=vn.len;refine⟨r4,_,rfl,a7 oh,c7 (numsOf hs (fX x) v),λi ys Z g'=>j4 g' d/\Gr d g4 g'/\(∃ns:List Int,ys=ns.map .int)/\ys.length<=i/\∃z1 z2,Z=[some (.ref d),z1,z2],by simp[c7];omega,λi ys Z g' p=>⟨v8 (a7 (p.2.1.at (by omega) oh)),p.2.2.2.1⟩,⟨D4,Gr.refl _ _,⟨[],rfl⟩,by simp,none,none,rfl⟩,λi y ys Z g' hy p=>?_,λys Z g5 p=>?_⟩
 ·obtain⟨D5,G5,⟨ns,rfl⟩,hl,z1,z2,rfl⟩:=p;rw[c7,aA,ae] at hy;obtain⟨j,_,rfl⟩:=hy;refine o8 ?_
  try show da _ _ _ _ _ _
  walk_at"";refine j9 (k:=k+4) h4 D5 (by decide) (by decide) λr g6 _ _ D6 G6=>?_;walk_at"";refine if2 (λ_=>?_) (λ_=>?_)
  ·walk_at"";exact⟨D6,G5.trans G6,⟨ns++[(j:Int)],by simp⟩,by simp at hl ⊢;omega,_,_,rfl⟩
  ·exact⟨D6,G5.trans G6,⟨ns,rfl⟩,by omega,_,_,rfl⟩
 obtain⟨D5,G5,⟨ns,rfl⟩,hl,z1,z2,rfl⟩:=p;have XG:ns.length<=9:=by simp[c7] at hl;omega
 have FV:=tB.trans G5;have e6:=Ex.snoc g5 (O.lst (ns.map D.int));have s6:=b8 (g:=g5) (o:=O.lst (ns.map D.int));have G6:=FV.trans (e6.gr d);have D6:=e6.draw D5;have l6:g.length<=g5.length:=FV.len;generalize g5++[O.lst (ns.map D.int)]=g6 at *;generalize g5.length=a6 at *;walk_at"";refine j9 (k:=k+4) h4 D6 (by decide) (by decide) λr g7 _ _ D7 G7=>?_;have vm:=G6.trans G7;have s7:=G7.at (by omega) s6;have fin2:∀(ns:List Int) a8 g8,ns.length<=40->j4 g8 d->Gr d g g8->g.length<=a8->g8[a8]?=some (.lst (ns.map .int))->wpS (b0 T (k+5)) (.ret (.prim .tup (.cons (.lit (.str "two")) (.cons (.var 2) (.cons (.var 3) (.cons (.var 4) .nil)))))) ⟨λ_ g'=>Q .aX g',Q,λ_ _=>False,λ_ _=>False⟩ [some (.ref d),some (.ref q),some (.str x),some (.int v),some (.ref a8),some (.int r)] g8 E:=λns a8 g8 Hl D8 G8 l8 s8=>by
  walk_at"";exact h2 x v ns a8 g8 ho D8 G8 l8 s8 (by omega)
 have ox:∀(ns:List Int) a8 g8,ns.length<=10->j4 g8 d->Gr d g g8->g.length<=a8->g8[a8]?=some (.lst (ns.map .int))->wpS (b0 T (k+5)) (match pW.body with|.seq _ (.seq _ (.seq _ (.seq _ (.seq _ (.seq _ b)))))=>b|x=>x) ⟨λ_ g'=>Q .aX g',Q,λ_ _=>False,λ_ _=>False⟩ [some (.ref d),some (.ref q),some (.str x),some (.int v),some (.ref a8),some (.int r)] g8 E:=λns a8 g8 Hl D8 G8 l8 s8=>by
  dsimp[pW];walk_at"";refine if2 (λ_=>?_) (λ_=>?_)
  ·walk_at"";refine EG (a7 s8) ?_;rw[yu];walk_at"";have x1:=Ex.snoc g8 (O.lst ((cut ns (some 1) none).map D.int));refine EF (a7 (x1.at s8)) ?_;rw[yu];walk_at"";have x2:=Ex.snoc (g8++[O.lst ((cut ns (some 1) none).map D.int)]) (O.lst ((cut ns none (some 1)).map D.int));have c1:=zD ns (some 1) none;have c2:=zD ns none (some 1);have c3:=zD ns (some (-1)) none;refine zi (x2.at b8) b8 (by simp;omega) ?_;walk_at"";have x3:=Ex.snoc ((g8++[O.lst ((cut ns (some 1) none).map D.int)])++[O.lst ((cut ns none (some 1)).map D.int)]) (O.lst ((cut ns (some 1) none).map D.int++(cut ns none (some 1)).map D.int));have vB:=(x1.trans x2).trans x3;refine EG (a7 (vB.at s8)) ?_;rw[yu];have x4:=Ex.snoc (((g8++[O.lst ((cut ns (some 1) none).map D.int)])++[O.lst ((cut ns none (some 1)).map D.int)])++[O.lst ((cut ns (some 1) none).map D.int++(cut ns none (some 1)).map D.int)]) (O.lst ((cut ns (some (-1)) none).map D.int));walk_at"";refine zi (x4.at b8) b8 (by simp;omega) ?_;have x5:=(vB.trans x4).trans (Ex.snoc _ (O.lst (((cut ns (some 1) none).map D.int++(cut ns none (some 1)).map D.int)++(cut ns (some (-1)) none).map D.int)));exact fin2 (cut ns (some 1) none++cut ns none (some 1)++cut ns (some (-1)) none) _ _ (by simp;omega) (x5.draw D8) (G8.trans (x5.gr d)) (by have:=G8.len;have:=(vB.trans x4).len;omega) (by rw[cc,cc];exact b8)
  ·exact fin2 ns a8 g8 (by omega) D8 G8 l8 s8
 dsimp[pW] at ox;walk_at"";refine if2 (λ_=>?_) (λ_=>?_)
 ·have B7:=Bg vm;walk_at"";refine u3 B7.b rfl P4 ?_;walk_at"";refine sE B7.c (by simp[gc];omega) ?_;rw[S7];walk_at"";refine F8 b8 O1.inc (by rw[X8];omega) ?_;have x1:=(Ex.snoc g7 (O.lst (c7 (nums hs)))).trans (Ex.snoc _ (O.lst (c7 (nums hs))));have y1:=b8 (g:=g7++[O.lst (c7 (nums hs))]) (o:=O.lst (c7 (nums hs)));rw[M3] at y1;have l7:=vm.len;walk_at"";refine Fh (k:=k+1) hT.td (ns:=(nums hs).map λn:Nat=>(n:Int)) (by rw[M3] at *;exact y1) (by simp;omega) (by simp[nums];omega) (x1.draw D7) λj g8 D8 G8=>?_;have FU:=vm.trans ((x1.gr d).trans G8);have s8:=G8.at (by omega) (x1.at s7);walk_at"";refine zi ((Ex.snoc _ _).at s8) b8 (by simp;omega) ?_;have x2:=(Ex.snoc g8 (O.lst [D.int j])).trans (Ex.snoc _ (O.lst (ns.map D.int++[D.int j])));exact ox (ns++[j]) _ _ (by simp;omega) (x2.draw D8) (FU.trans (x2.gr d)) (by have:=FU.len;simp;omega) (by rw[cc];exact b8)
 ·exact ox ns a6 g7 (by omega) D7 vm l6 s7
end
section
variable{T:Nat->Option aM}{d:Nat}{c:Nat}
def pG(e:Str):Prop:=e="BadSide"\/e="NoDie"\/e="SameOne"\/e="NoCoin"\/e="BadList"
theorem Wb(h:t8 hs f v u≠""):pG (t8 hs f v u):=by
 unfold t8 at h ⊢;unfold pG;split
 ·simp
 ·rename_i c1;rw[aB c1] at h;split
  ·simp
  ·rename_i c2;rw[aB c2] at h;exact absurd rfl h
theorem WY(h:t4 hs f v ns≠""):pG (t4 hs f v ns):=by
 unfold t4 at h ⊢;unfold pG;split
 ·simp
 ·rename_i c1;rw[aB c1] at h;split
  ·rename_i c2;rw[aJ c2] at h;split
   ·simp
   ·rename_i c3;rw[aB c3] at h;exact absurd rfl h
  ·simp
def Cb:List (Str×ME):=[("BadSide",(.prim .lst (.cons (.lit (.str "BadSide")) (.cons (.lit .aX) .nil)))),("NoDie",(.prim .lst (.cons (.lit (.str "NoDie")) (.cons (.lit .aX) .nil)))),("SameOne",(.prim .lst (.cons (.lit (.str "SameOne")) (.cons (.lit .aX) .nil)))),("NoCoin",(.prim .lst (.cons (.lit (.str "NoCoin")) (.cons (.lit .aX) .nil)))),("BadList",(.prim .lst (.cons (.lit (.str "BadList")) (.cons (.lit .aX) .nil))))]
theorem VG{e:Str}(h5:pG e)(h:N.rt (.ref g.length) (g++[.lst [.str e,.aX]])):jJ P N Z E Cb ⟨e⟩ g:=by
 have one:∀{e:Str},N.rt (.ref g.length) (g++[.lst [.str e,.aX]])->aP P (.prim .lst (.cons (.lit (.str e)) (.cons (.lit .aX) .nil))) Z g N.rt iD:=λh=>EM (M8 (w_lit (M8 (w_lit (uA (sH (by simp) h))))));unfold Cb;rcases h5 with rfl|rfl|rfl|rfl|rfl
 ·exact sD rfl (one h)
 ·exact G0 (by decide +kernel) (sD rfl (one h))
 ·exact G0 (by decide +kernel) (G0 (by decide +kernel) (sD rfl (one h)))
 ·exact G0 (by decide +kernel) (G0 (by decide +kernel) (G0 (by decide +kernel) (sD rfl (one h))))
 ·exact G0 (by decide +kernel) (G0 (by decide +kernel) (G0 (by decide +kernel) (G0 (by decide +kernel) (sD rfl (one h)))))
theorem CP(hT:kB T)(h:b0 T (k+10) 205 [.ref m,dd] g (λy g'=>Q (.ref g'.length) (g'++[.lst [.str "",y]])) (λe g'=>pG e.cls/\Q (.ref g'.length) (g'++[.lst [.str e.cls,.aX]]))):b0 T (k+11) 49 [.ref m,dd] g Q E:=by
 refine call_of hT.HP rfl ?_;dsimp[zI,b9,List.replicate];walk_at"";refine a9 T _ _ _ _ _ _ _ _ (λy g' q=>?_) (λe g' q=>?_) h
 ·exact sH (by simp) q
 ·exact VG q.1 q.2
theorem La(hT:kB T)(hm:∃lc lf,g[m]?=some (fu hd cl lc lf))(h:b0 T (k+9) 219 [.ref m,.str x,.int v,.int u] g Q E):b0 T (k+10) 205 [.ref m,.tup [.str "one",.str x,.int v,.int u]] g Q E:=by
 obtain⟨lc,lf,hm⟩:=hm;refine call_of hT.rF rfl ?_;dsimp[O7,b9,List.replicate];walk_at""
 iterate 5 (refine hJ (by decide +kernel) ?_;walk_at"")
 refine iY (by decide +kernel) ?_;walk_at"";refine m8 hm rfl rfl ?_;walk_at"";exact h
theorem Lb(hT:kB T)(hm:∃lc lf,g[m]?=some (fu hd cl lc lf))(ha:g[a]?=some (.lst (ns.map .int)))(h:b0 T (k+9) 220 [.ref m,.str x,.int v,.ref g.length] (g++[.lst (ns.map .int)]) Q E):b0 T (k+10) 205 [.ref m,.tup [.str "two",.str x,.int v,.ref a]] g Q E:=by
 obtain⟨lc,lf,hm⟩:=hm;refine call_of hT.rF rfl ?_;dsimp[O7,b9,List.replicate];walk_at""
 iterate 6 (refine hJ (by decide +kernel) ?_;walk_at"")
 refine m8 hm rfl rfl ?_;walk_at"";refine Cf (a7 ha) ?_;walk_at"";exact h
theorem yo(hT:kB T)(h:b0 T (k+9) 202 [.ref q,.str x,.int v,.int u] g Q E):b0 T (k+10) 204 [.ref q,.tup [.str "one",.str x,.int v,.int u]] g Q E:=by
 refine call_of hT.rG rfl ?_;dsimp[vd,b9,List.replicate];walk_at""
 iterate 5 (refine hJ (by decide +kernel) ?_;walk_at"")
 refine iY (by decide +kernel) ?_;walk_at"";exact h
theorem yp(hT:kB T)(h:b0 T (k+9) 203 [.ref q,.str x,.int v,.ref a] g Q E):b0 T (k+10) 204 [.ref q,.tup [.str "two",.str x,.int v,.ref a]] g Q E:=by
 refine call_of hT.rG rfl ?_;dsimp[vd,b9,List.replicate];walk_at""
 iterate 6 (refine hJ (by decide +kernel) ?_;walk_at"")
 exact h
structure iC(g:G)(d m hd cl q qc qf n:Nat)(hs:Hs):Prop where
 dr:j4 g d
 C:iS g m hd cl n (0:Nat) hs []
 B:hW g q qc qf n 0 hs []
 K:jr hs
 lt:∀j∈nums hs,j<=n
structure Ad(d m hd cl q qc qf:Nat):Prop where
 a1:d<m
 a2:m<hd
 a3:hd<cl
 a4:cl<q
 a5:q<qc
 a6:qc<qf
theorem iC.at(W:iC g d m hd cl q qc qf n hs)(e:Ex g g'):iC g' d m hd cl q qc qf n hs:=⟨e.draw W.dr,W.C.at e,W.B.at e,W.K,W.lt⟩
theorem iC.set(W:iC g d m hd cl q qc qf n hs)(A:Ad d m hd cl q qc qf){r:Nat}(h:qf<r)(o:O):iC (g.set r o) d m hd cl q qc qf n hs:=by
 have:=A.a1;have:=A.a2;have:=A.a3;have:=A.a4;have:=A.a5;have:=A.a6;exact⟨W.dr.Oo (by omega),⟨j5 W.C.o (by omega),j5 W.C.h (by omega),j5 W.C.c (by omega)⟩,⟨j5 W.B.b (by omega),j5 W.B.c (by omega),j5 W.B.f (by omega)⟩,W.K,W.lt⟩
theorem DN(x:Str):(x≠"lower"/\x≠"upper")\/∃w:RW,w≠.dW/\x=w.s:=by
 by_cases h1:x="lower"
 ·exact .inr ⟨.lower,(λz=>by cases z),h1⟩
 ·by_cases h2:x="upper"
  ·exact .inr ⟨.upper,(λz=>by cases z),h2⟩
  ·exact .inl ⟨h1,h2⟩
def M9:MS:=match oR.body with
 |.seq _ (.seq _ (.seq _ (.seq _ (.seq (.dU _ _ (.seq _ b)) _))))=>b
 |x=>x
def Yr(g:G)(qf:Nat)(y y2:D):Prop:=(y=.aX/\y2=.aX)\/(∃F,y=.int F/\y2=.int F)\/∃r1 r2 l,y=.ref r1/\y2=.ref r2/\qf<r1/\g[r1]?=some (.lst (c7 l))/\g[r2]?=some (.lst (c7 l))/\l.length<=1000
theorem Yr.NM{y2:D}(h:Yr g qf y y2):p9 g 1 y y2:=by
 rcases h with⟨rfl,rfl⟩|⟨F,rfl,rfl⟩|⟨r1,r2,l,rfl,rfl,_,h1,h2,hz⟩
 ·exact .aX
 ·exact .int _
 ·exact Dr h1 h2 hz
theorem EC(hT:kB T)(A:Ad d m hd cl q qc qf){e:Str}{r:Nat}(XF:qf<r)(hb:∀{Q:KD},(∀g2 y2,iC g2 d m hd cl q qc qf n hs->g2[r]?=some (.lst [.str e,y])->Yr g2 qf y y2->Q (.tup [.str e,y2]) g2)->b0 T (k+12) 204 [.ref q,dd] g Q E)(h:∀g',iC g' d m hd cl q qc qf n hs->N.nx [z0,z1,some (.ref m),some (.ref q),z4,z5,some dd,some (.ref r)] g') :
  wpS (b0 T (k+12)) (match M9 with|.seq _ b=>b|x=>x) N [z0,z1,some (.ref m),some (.ref q),z4,z5,some dd,some (.ref r)] g E:=by
 dsimp[M9,oR];walk_at"";refine hb λg2 y2 W2 jO Y2=>?_;walk_at"";have e3:=Ex.snoc g2 (O.lst [D.str e,y2]);have lk:p9 (g2++[O.lst [D.str e,y2]]) 2 (.ref r) (.ref g2.length):=by
  refine .lst (e3.at jO) b8 rfl (λi p p' hp fL=>?_) (by simp)
  match i,hp,fL with
  |0,hp,fL=>cases hp;cases fL;exact .str _
  |1,hp,fL=>cases hp;cases fL;exact(Y2.NM).ex e3
  |i+2,hp,_=>simp at hp
 refine N4 hT.h6 hT.h7 2 (k:=k+8) lk λg4 e4=>?_;have xJ:=e3.trans e4;have W4:=W2.at xJ;have oh:=xJ.at jO;have kL:∀g5,iC g5 d m hd cl q qc qf n hs->wpS (b0 T (k+12)) (.ifs (.cJ (.dA (.call 207 (.cons (.var 2) (.cons (.var 3) .nil))))) (.seq (.ret (.lit (.bl false))) .pass) .pass) N [z0,z1,some (.ref m),some (.ref q),z4,z5,some dd,some (.ref r)] g5 E:=λg5 W5=>by
  walk_at"";refine Ti (k:=k+6) hT W5.C W5.B W5.K λg6 e6=>?_;walk_at"";exact h _ (W5.at e6)
 walk_at"";rcases Y2 with⟨rfl,rfl⟩|⟨F,rfl,rfl⟩|⟨r1,r2,l,rfl,rfl,l1,h1,_,_⟩
 ·refine fo (c:="list") (b:=false) (by decide) rfl ?_;refine zS (U1 ?_);exact kL g4 W4
 ·refine fo (c:="list") (b:=false) (by decide) rfl ?_;refine zS (U1 ?_);exact kL g4 W4
 ·have h4:=xJ.at h1;refine fo (c:="list") (b:=true) (by decide) (show(match g4[r1]? with|some (.lst _)=>some ("list"=="list")|_=>none)=some true by rw[h4];rfl) ?_;walk_at""
  try refine⟨VU h4,?_⟩
  walk_at"";refine Lz h4 ?_;exact kL _ (W4.set A l1 _)
theorem VB(O1:jr hs)(hf:f=0\/f=2)(h:numsOf hs f v≠[]):1<=v/\v<=99:=by
 have:=yV.mpr h;unfold F2 i8 at this;rw[bj] at this;obtain⟨p,hp,rfl⟩:=aF.mp this;obtain⟨a1,_,a3,_⟩:=(O1.good p hp).inv;show 1<=E6 f p.2/\E6 f p.2<=99;unfold E6;split
 ·exact a1
 ·exact a3
theorem LK(hT:TC T)(ho:PyData.strOk x=true)(h1:x≠"lower")(h2:x≠"upper")(h:E ⟨"BadSide"⟩ g):b0 T (k+2) 219 [.ref m,.str x,.int v,.int u] g Q E:=by
 refine call_of hT.rE rfl ?_;dsimp[F0,b9,List.replicate];walk_at"";exact E0 hT.kj.2 ho (λz=>z.elim (λz=>absurd z h1) λz=>absurd z h2) λ_ _=>h
theorem MV(hT:TC T)(ho:PyData.strOk x=true)(h1:x≠"lower")(h2:x≠"upper")(h:E ⟨"BadSide"⟩ g):b0 T (k+2) 220 [.ref m,.str x,.int v,.ref a] g Q E:=by
 refine call_of hT.rD rfl ?_;dsimp[E4,b9,List.replicate];walk_at"";exact E0 hT.kj.2 ho (λz=>z.elim (λz=>absurd z h1) λz=>absurd z h2) λ_ _=>h
theorem ve(W:iC g d m hd cl q qc qf n hs){g1:G}(e1:Ex g g1){e:Str}(hb:∀{g2:G} {Q:KD},Ex g g2->(∀g3,Ex g2 g3->Q (.tup [.str e,.aX]) g3)->b0 T (k+12) 204 [.ref q,dd] g2 Q E) :
  ∀{Q:KD},(∀g2 y2,iC g2 d m hd cl q qc qf n hs->g2[g1.length]?=some (.lst [.str e,.aX])->Yr g2 qf .aX y2->Q (.tup [.str e,y2]) g2)->b0 T (k+12) 204 [.ref q,dd] (g1++[.lst [.str e,.aX]]) Q E:=λH=>by
 have e2:=e1.trans (Ex.snoc g1 (O.lst [D.str e,.aX]));refine hb e2 λg3 e3=>?_;exact H g3 .aX (W.at (e2.trans e3)) (e3.at b8) (.inl ⟨rfl,rfl⟩)
theorem WU(hT:kB T)(A:Ad d m hd cl q qc qf){z7:Option D}(ho:PyData.strOk x=true)(W:iC g d m hd cl q qc qf n hs)(h:∀g' hs' z7,iC g' d m hd cl q qc qf n hs'->N.nx [z0,z1,some (.ref m),some (.ref q),z4,z5,some (.tup [.str "one",.str x,.int v,.int u]),z7] g') :
  wpS (b0 T (k+12)) M9 N [z0,z1,some (.ref m),some (.ref q),z4,z5,some (.tup [.str "one",.str x,.int v,.int u]),z7] g E:=by
 have a1:=A.a1;have a2:=A.a2;have a3:=A.a3;have a4:=A.a4;have a5:=A.a5;have a6:=A.a6;have lf:=v9 W.B.f;have rest:=λ{hs':Hs} {g:G} {y:D} {e:Str} {r:Nat}=>EC (k:=k) (g:=g) (E:=E) (hs:=hs') (n:=n) (z0:=z0) (z1:=z1) (z4:=z4) (z5:=z5) (dd:=.tup [.str "one",.str x,.int v,.int u]) (y:=y) (e:=e) (r:=r) hT (N:=N) A;dsimp[M9,oR] at rest ⊢;walk_at"";refine CP (k:=k+1) hT (La (k:=k+1) hT ⟨_,_,W.C.o⟩ ?_);rcases DN x with⟨x1,x2⟩|⟨w,hw,rfl⟩
 ·refine LK (k:=k+8) hT.tc ho x1 x2 ⟨.inl rfl,?_⟩;refine rest (hs':=hs) lf (ve (k:=k) W (Ex.refl g) λe2 H=>yo (k:=k+2) hT (Ra (k:=k+9) hT.td ho x1 x2 H)) λg' W'=>h g' hs _ W'
 ·refine Jc (k:=k+5) hT.tc hw W.C W.K (by omega) (by omega) (λeA g1 e1=>⟨Wb eA,?_⟩) (λh0 g1 r1 G1 l1 mY C1=>?_)
  ·refine rest (hs':=hs) (by have:=e1.len;omega) (ve (k:=k) W e1 λ{g2 Q} e2 H=>yo (k:=k+2) hT (FA (k:=k+9) hT.td hw (W.B.at e2) W.K (by omega) (by omega) (λ_ g3 e3=>H g3 e3) (λz=>absurd z eA))) λg' W'=>h g' hs _ W'
  ·have hv:1<=v/\v<=99:=by
    refine VB W.K (zF w) λz=>?_;have:t8 hs (bR w) v u="NoDie":=by unfold t8;rw[aJ (.inl z)]
    rw[this] at h0;exact absurd h0 (by decide +kernel)
   have K1:jr (j3 hs (numsOf hs (bR w) u) (bR w) v):=W.K.give hv.1 hv.2;have t1:∀j∈nums (j3 hs (numsOf hs (bR w) u) (bR w) v),j<=n:=λj hj=>W.lt j (by rw[A5] at hj;exact hj);have e2:=Ex.snoc g1 (O.lst [D.str "",.ref r1]);have D1:=W.dr.gr G1 (by omega);have B1:hW g1 q qc qf n 0 hs []:=⟨G1.at (by omega) W.B.b,G1.at (by omega) W.B.c,G1.at (by omega) W.B.f⟩
   have lg:=G1.len;have nl:(numsOf hs (bR w) u).length<=1000:=aL (numsOf_len _ _ _) (by have:=W.K.len;omega);refine rest (hs':=j3 hs (numsOf hs (bR w) u) (bR w) v) (y:=.ref r1) (e:="") (by omega) (λ{Q} H=>yo (k:=k+2) hT (FA (k:=k+9) hT.td hw (B1.at e2) W.K (by omega) (by omega) (λz=>absurd h0 z) (λ_ g3 r3 G3 l3 my B3=>?_))) λg' W'=>h g' _ _ W';have C3:=C1.at e2;exact H g3 (.ref r3) ⟨(e2.draw D1).gr G3 (by omega),⟨G3.at (by omega) C3.o,G3.at (by omega) C3.h,G3.at (by omega) C3.c⟩,B3,K1,t1⟩ (G3.at (by omega) b8) (.inr (.inr ⟨r1,r3,_,rfl,rfl,by omega,G3.at (by omega) (e2.at mY),my,nl⟩))
theorem WV(hT:kB T)(A:Ad d m hd cl q qc qf){z7:Option D}(ho:PyData.strOk x=true)(ha:g[a]?=some (.lst (ns.map .int)))(hl:ns.length<=50)(la:qf<a)(W:iC g d m hd cl q qc qf n hs)(h:∀g' hs' z7,iC g' d m hd cl q qc qf n hs'->N.nx [z0,z1,some (.ref m),some (.ref q),z4,z5,some (.tup [.str "two",.str x,.int v,.ref a]),z7] g') :
  wpS (b0 T (k+12)) M9 N [z0,z1,some (.ref m),some (.ref q),z4,z5,some (.tup [.str "two",.str x,.int v,.ref a]),z7] g E:=by
 have a1:=A.a1;have a2:=A.a2;have a3:=A.a3;have a4:=A.a4;have a5:=A.a5;have a6:=A.a6;have lf:=v9 W.B.f;have rest:=λ{hs':Hs} {g:G} {y:D} {e:Str} {r:Nat}=>EC (k:=k) (g:=g) (E:=E) (hs:=hs') (n:=n) (z0:=z0) (z1:=z1) (z4:=z4) (z5:=z5) (dd:=.tup [.str "two",.str x,.int v,.ref a]) (y:=y) (e:=e) (r:=r) hT (N:=N) A;dsimp[M9,oR] at rest ⊢;walk_at"";refine CP (k:=k+1) hT (Lb (k:=k+1) hT ⟨_,_,W.C.o⟩ ha ?_);have e0:=Ex.snoc g (O.lst (ns.map D.int));have s0:=b8 (g:=g) (o:=O.lst (ns.map D.int));have W0:=W.at e0;have l0:(g++[O.lst (ns.map D.int)]).length=g.length+1:=by simp
 have HF:=e0.at ha;have XB:=v9 ha;rcases DN x with⟨x1,x2⟩|⟨w,hw,rfl⟩
 ·refine MV (k:=k+8) hT.tc ho x1 x2 ⟨.inl rfl,?_⟩;refine rest (hs':=hs) (by omega) (ve (k:=k) W e0 λe2 H=>yp (k:=k+2) hT (Rb (k:=k+9) hT.td ho x1 x2 H)) λg' W'=>h g' hs _ W'
 ·obtain⟨F,hF⟩:=Lh (F2 hs (bR w));have HL:=hF.le;have dl:(F2 hs (bR w)).length<=9:=by have:=W.K.len;simpa[F2,i8] using this
  refine KH (k:=k+2) hT.tc hw W0.C W.K (by omega) (by omega) s0 hl (by omega) hF (λeA g1 e1=>⟨WY eA,?_⟩) (λh0 g1 G1 C1=>?_)
  ·refine rest (hs':=hs) (by have:=e1.len;omega) (ve (k:=k) W (e0.trans e1) λ{g2 Q} e2 H=>yp (k:=k+2) hT (FC (k:=k+9) hT.td hw (W.B.at e2) W.K (by omega) (by omega) (e2.at ha) hl (by omega) hF (λ_ g3 e3=>H g3 e3) (λz=>absurd z eA))) λg' W'=>h g' hs _ W'
  ·have K1:jr (j3 hs (ns.map Int.toNat) (bR w) F):=W.K.give hF.pos (by omega);have t1:∀j∈nums (j3 hs (ns.map Int.toNat) (bR w) F),j<=n:=λj hj=>W.lt j (by rw[A5] at hj;exact hj);have e2:=Ex.snoc g1 (O.lst [D.str "",.int F]);have D1:=W0.dr.gr G1 (by omega);have B1:hW g1 q qc qf n 0 hs []:=⟨G1.at (by omega) W0.B.b,G1.at (by omega) W0.B.c,G1.at (by omega) W0.B.f⟩
   have lg:=G1.len;have s1:=G1.at (by omega) HF;refine rest (hs':=j3 hs (ns.map Int.toNat) (bR w) F) (y:=.int F) (e:="") (by omega) (λ{Q} H=>yp (k:=k+2) hT (FC (k:=k+9) hT.td hw (B1.at e2) W.K (by omega) (by omega) (e2.at s1) hl (by omega) hF (λz=>absurd h0 z) (λ_ g3 G3 B3=>?_))) λg' W'=>h g' _ _ W';have C3:=C1.at e2;exact H g3 (.int F) ⟨(e2.draw D1).gr G3 (by omega),⟨G3.at (by omega) C3.o,G3.at (by omega) C3.h,G3.at (by omega) C3.c⟩,B3,K1,t1⟩ (G3.at (by omega) b8) (.inr (.inl ⟨F,rfl,rfl⟩))
theorem KY(hT:TD T)(h:Q (.ref g.length) (g++[.bX (J1 (g.length+1) (g.length+2) 0 0),.bX [],.bX []])):b0 T (k+1) 195 [] g Q E:=by
 refine call_of hT.xr rfl ?_;dsimp[zO,b9,List.replicate];walk_at"";refine QT ?_;walk_at"";refine⟨_,rfl,by simp,by simp,?_⟩;have:((g++[O.bX []]++[O.bX []])++[O.bX []]).set g.length (.bX [(.inr "coins",.ref (g++[O.bX []]).length),(.inr "facts",.ref ((g++[O.bX []])++[O.bX []]).length),(.inr "given",.int 0),(.inr "learnt",.int 0)])=g++[.bX (J1 (g.length+1) (g.length+2) 0 0),.bX [],.bX []]:=by
  simp[J1,List.set_append]
 exact this▸h
theorem KZ(hT:TC T)(h:Q .aX (g++[fu (g.length+1) (g.length+2) 0 0,.bX [],.bX []])):b0 T (k+1) 208 [.ref g.length] (g++[.ins "Cabinet" []]) Q E:=by
 refine call_of hT.xk rfl ?_;dsimp[Q3,b9,List.replicate];have s0:=b8 (g:=g) (o:=O.ins "Cabinet" []);walk_at"";refine uy (uR s0) (by simp) (by simp) ?_;rw[show ∀x:D,x8 "held" x []=([("held",x)]:List (Str×D)) from λ_=>rfl];have s1:=get_set (uR (o':=O.bX []) s0) (o':=O.ins "Cabinet" [("held",.ref (g++[O.ins "Cabinet" []]).length)]);walk_at"";refine uy (uR s1) (by simp) (by simp) ?_;rw[show ∀x y:D,x8 "claims" x [("held",y)]=([("held",y),("claims",x)]:List (Str×D)) from λ_ _=>rfl];generalize hx:D.ref (((g++[O.ins "Cabinet" []]++[O.bX []]).set g.length (O.ins "Cabinet" [("held",.ref (g++[O.ins "Cabinet" []]).length)])).length)=x2 at *;have s2:=get_set (uR (o':=O.bX []) s1) (o':=O.ins "Cabinet" [("held",.ref (g++[O.ins "Cabinet" []]).length),("claims",x2)]);walk_at"";refine uy s2 (by simp) (by simp) ?_;rw[show ∀x y z:D,x8 "last_coin" x [("held",y),("claims",z)]=([("held",y),("claims",z),("last_coin",x)]:List (Str×D)) from λ_ _ _=>rfl];have s3:=get_set s2 (o':=O.ins "Cabinet" [("held",.ref (g++[O.ins "Cabinet" []]).length),("claims",x2),("last_coin",.int 0)]);walk_at"";refine uy s3 (by simp) (by simp) ?_;rw[show ∀x y z u:D,x8 "last_fact" x [("held",y),("claims",z),("last_coin",u)]=([("held",y),("claims",z),("last_coin",u),("last_fact",x)]:List (Str×D)) from λ_ _ _ _=>rfl];walk_at"";subst hx;refine cast (dM (Q .aX) ?_) h;simp[List.set_append,fu]
theorem VN(hT:kB T):b0 T (k+13) 11 [.ref 0] [.mI (ns.map .int)] (λd _=>d=.bl true) iD:=by
 have h4:=hT.td.h4;refine call_of hT.HV rfl ?_;dsimp[oR,b9,List.replicate];walk_at"";refine LR (k:=k+11) hT.h3 (a:=0) (ns:=ns) rfl λd g D0 _ _=>?_;have dl:=D0.lt;walk_at"";refine KZ (k:=k+11) hT.tc ⟨rfl,?_⟩;walk_at"";refine KY (k:=k+11) hT.td ?_;have e1:Ex g ((g++[fu (g.length+1) (g.length+2) 0 0,.bX [],.bX []])++[.bX (J1 ((g++[fu (g.length+1) (g.length+2) 0 0,.bX [],.bX []]).length+1) ((g++[fu (g.length+1) (g.length+2) 0 0,.bX [],.bX []]).length+2) 0 0),.bX [],.bX []]):=⟨by simp,λi hi=>by rw[aE (by simp;omega),aE hi]⟩
 have W:iC ((g++[fu (g.length+1) (g.length+2) 0 0,.bX [],.bX []])++[.bX (J1 ((g++[fu (g.length+1) (g.length+2) 0 0,.bX [],.bX []]).length+1) ((g++[fu (g.length+1) (g.length+2) 0 0,.bX [],.bX []]).length+2) 0 0),.bX [],.bX []]) d g.length (g.length+1) (g.length+2) (g++[fu (g.length+1) (g.length+2) 0 0,.bX [],.bX []]).length ((g++[fu (g.length+1) (g.length+2) 0 0,.bX [],.bX []]).length+1) ((g++[fu (g.length+1) (g.length+2) 0 0,.bX [],.bX []]).length+2) 0 []:=by
  refine⟨e1.draw D0,⟨?_,?_,?_⟩,⟨?_,?_,?_⟩,⟨List.Pairwise.nil,by decide,λp hp=>by cases hp⟩,λj hj=>by cases hj⟩
  all_goals first|(simp[gc,nr,List.getElem?_append];done)|(rw[cI (by simp)];simp[gc,nr];done)
 have A:Ad d g.length (g.length+1) (g.length+2) (g++[fu (g.length+1) (g.length+2) 0 0,.bX [],.bX []]).length ((g++[fu (g.length+1) (g.length+2) 0 0,.bX [],.bX []]).length+1) ((g++[fu (g.length+1) (g.length+2) 0 0,.bX [],.bX []]).length+2):=⟨dl,by omega,by omega,by simp,by omega,by omega⟩
 generalize ((g++[fu (g.length+1) (g.length+2) 0 0,.bX [],.bX []])++[.bX (J1 ((g++[fu (g.length+1) (g.length+2) 0 0,.bX [],.bX []]).length+1) ((g++[fu (g.length+1) (g.length+2) 0 0,.bX [],.bX []]).length+2) 0 0),.bX [],.bX []])=g1 at *;generalize (g++[fu (g.length+1) (g.length+2) 0 0,.bX [],.bX []]).length+2=qf at *;generalize (g++[fu (g.length+1) (g.length+2) 0 0,.bX [],.bX []]).length+1=qc at *;generalize (g++[fu (g.length+1) (g.length+2) 0 0,.bX [],.bX []]).length=q at *;generalize g.length+2=cl at *;generalize g.length+1=hd at *;generalize g.length=m at *;have a1:=A.a1;have a2:=A.a2;have a3:=A.a3;have a4:=A.a4;have a5:=A.a5;have a6:=A.a6;walk_at"";refine V9 (a9 T _) (vc (a9 T _) ?_);walk_at"";refine j9 (k:=k+11) h4 W.dr (by decide) (by decide) λr g2 r0 r1 D2 G2=>?_;walk_at"";have Wg:∀{g g':G} {n:Nat} {hs:Hs},iC g d m hd cl q qc qf n hs->j4 g' d->Gr d g g'->iC g' d m hd cl q qc qf n hs:=λW D' G'=>⟨D',⟨G'.at (by omega) W.C.o,G'.at (by omega) W.C.h,G'.at (by omega) W.C.c⟩,⟨G'.at (by omega) W.B.b,G'.at (by omega) W.B.c,G'.at (by omega) W.B.f⟩,W.K,W.lt⟩
 refine⟨by omega,by omega,_,λi Z g'=>(∃hs,iC g' d m hd cl q qc qf i hs/\hs.length=i)/\∃z4 z5,Z=[some (.ref 0),some (.ref d),some (.ref m),some (.ref q),z4,z5,none,none],λ_ _ _ _=>Q8,⟨⟨[],Wg W D2 G2,rfl⟩,none,none,rfl⟩,λi y Z g3 hy p=>?_,λZ g3 p=>?_⟩
 ·obtain⟨⟨hs,W3,hl⟩,z4,z5,rfl⟩:=p;obtain⟨hi,rfl⟩:=U6 hy;have XJ:i<9:=by omega
  refine o8 ?_
  try show wpS _ _ _ _ _ _
  walk_at"";refine Uw (k:=k+10) h4 hT.xf W3.dr λc g4 hc D4 G4=>?_;have W4:=Wg W3 D4 G4;walk_at"";refine m8 W4.C.o rfl rfl ?_;walk_at"";refine RD (k:=k+6) hT.tc W4.C hc.good (by omega) W4.lt (by omega) (by omega) (by omega) λg5 l5 o5 C5=>?_;have B5:hW g5 q qc qf i 0 hs []:=⟨(o5 q (by omega) (by omega)).trans W4.B.b,(o5 qc (by omega) (by omega)).trans W4.B.c,(o5 qf (by omega) (by omega)).trans W4.B.f⟩
  have D5:j4 g5 d:=by
   obtain⟨s,p,b,r,xs,e1,e2,hs',q'⟩:=W4.dr.ex;exact⟨s,p,b,r,xs,(o5 d (by omega) (by omega)).trans e1,(o5 s (by omega) (by omega)).trans e2,hs',q'⟩
  walk_at"";refine Vr (k:=k+9) hT.td B5 hc.good (by omega) W4.lt (by omega) (by omega) (by omega) λg6 y l6 o6 B6=>?_;have su:∀{j o},j≠qc->j≠q->g5[j]?=some o->g6[j]?=some o:=λh1 h2 e=>(o6 _ (v9 e) h1 h2).trans e;have D6:j4 g6 d:=by
   obtain⟨s,p,b,r,xs,e1,e2,hs',q'⟩:=D5.ex;exact⟨s,p,b,r,xs,su (by omega) (by omega) e1,su (by omega) (by omega) e2,hs',q'⟩
  walk_at"";refine⟨⟨hs++[(i+1,c)],⟨D6,⟨su (by omega) (by omega) C5.o,su (by omega) (by omega) C5.h,su (by omega) (by omega) C5.c⟩,B6,⟨?_,by simp;omega,λp hp=>?_⟩,λj hj=>?_⟩,by simp;omega⟩,_,_,rfl⟩
  ·unfold nums iw;rw[cc,vp];refine⟨W4.K.inc,by simp,λx hx y hy=>?_⟩;have:=W4.lt x hx;simp at hy;omega
  ·rcases eX.mp hp with z|z
   ·exact W4.K.good p z
   ·rw[fE.mp z];exact hc
  ·unfold nums at hj;rw[cc] at hj;rcases eX.mp hj with z|z
   ·exact Xj (W4.lt j z)
   ·simp at z;omega
 obtain⟨⟨hs,W3,hl⟩,z4,z5,rfl⟩:=p;generalize (w6 0 (2+r).toNat).length=n at *
 try show wpS _ _ _ _ _ _
 walk_at"";refine V9 (a9 T _) (vc (a9 T _) ?_);walk_at"";refine j9 (k:=k+11) h4 W3.dr (by decide) (by decide) λr2 g4 Xz Xy D4 G4=>?_;walk_at"";refine⟨by omega,by omega,_,λi Z g'=>(∃hs,iC g' d m hd cl q qc qf n hs)/\∃z4 z6 z7,Z=[some (.ref 0),some (.ref d),some (.ref m),some (.ref q),z4,z5,z6,z7],λ_ _ _ _=>Q8,⟨⟨hs,Wg W3 D4 G4⟩,z4,none,none,rfl⟩,λi y Z g5 hy p=>?_,λZ g5 p=>?_⟩
 ·obtain⟨⟨hs,W5⟩,z4,z6,z7,rfl⟩:=p;obtain⟨hi,rfl⟩:=U6 hy;refine o8 ?_
  try show wpS _ _ _ _ _ _
  walk_at"";have lf:=v9 W5.B.f;refine MU (k:=k+6) hT W5.B W5.K W5.dr (by omega) (by omega) (by omega) (λx v u g6 ho D6 G6=>?_) (λx v ns a g6 ho D6 G6 la ha hl=>?_)
  ·show wpS (b0 T (k+12)) M9 _ _ _ _;exact WU (k:=k) hT A ho (Wg W5 D6 G6) λg' hs' z7 W'=>⟨⟨hs',W'⟩,_,_,_,rfl⟩
  ·show wpS (b0 T (k+12)) M9 _ _ _ _;exact WV (k:=k) hT A ho ha hl (by omega) (Wg W5 D6 G6) λg' hs' z7 W'=>⟨⟨hs',W'⟩,_,_,_,rfl⟩
 ·obtain⟨⟨hs,W5⟩,z4,z6,z7,rfl⟩:=p
  try show wpS _ _ _ _ _ _
  walk_at""
  rfl
end
end M
namespace Lk
open PySem L2 M
def top(i:Nat):Stmt:=PySem.Challenge.pw_trussel_k43_dies_made_one_and_two.main.body.getD i (.Pass ⟨0,0,0,0⟩)
def Lc:Stmt->List Stmt
 |.ClassDef (body:=b) ..=>b
 |_=>[]
def BA(i j:Nat):Stmt:=(Lc (top i)).getD j (.Pass ⟨0,0,0,0⟩)
def F:List RF:=[⟨41,"_wall",["k"],1,0,PV⟩,⟨38,"is_number",["thing"],1,18,yZ⟩,⟨1,"number_from",["number","least","most"],3,19,T7⟩,⟨2,"good_marks",["marks","least","spot"],1,20,E9⟩,⟨15,"within",["one","other"],2,21,Ly⟩,⟨12,"good_coin",["coin","lower","lower_marks","upper","upper_marks","year","good_lower","good_upper"],1,28,y9⟩,⟨39,"check_coin",["coin"],1,29,O6⟩,⟨18,"check_coins",["coins","coin"],1,30,T8⟩,⟨83,"check_place",["coins","place"],2,31,UL⟩,⟨40,"check_side",["side"],1,32,O5⟩,⟨19,"die_field",["side"],1,33,yY⟩,⟨177,"with_thing",["things","at","thing"],3,34,O4⟩,⟨74,"places_of",["coins","word","thing","field"],3,35,S6⟩,⟨75,"check_die",["coins","side","die"],3,36,yX⟩,⟨20,"dies_of",["coins","side","field"],2,37,yA⟩,⟨42,"check_anvils",["anvils"],1,42,Vn⟩,⟨88,"good_rule",["coins","rule","word","one","other"],2,43,Sz⟩,⟨89,"check_rules",["coins","rules","at","rule"],2,44,UM⟩,⟨90,"stand_of",["places"],1,45,VS⟩,⟨91,"with_coin",["stand","place"],2,46,SD⟩,⟨92,"more_worn",["one","other","side","field"],2,47,SA⟩,⟨93,"later",["one","other"],2,48,IY⟩,⟨94,"worn_stands",["coins"],1,49,UR⟩,⟨95,"later_stands",["coins"],1,50,Vo⟩,⟨96,"die_stands",["coins"],1,51,TU⟩,⟨97,"needed_stands",["coins","rules","needed","word","one","other","first","place"],2,52,Rx⟩,⟨98,"check_asked",["coins","anvils","rules"],3,54,UK⟩,⟨99,"bounds_of",["coins","anvils","rules"],3,55,Sy⟩,⟨100,"dies_in_use",["bounds","stand","place","struck","left"],3,56,TV⟩,⟨101,"next_fault",["bounds","stand","place"],3,57,TY⟩,⟨115,"follows",["bounds","stand","place"],3,59,VP⟩,⟨116,"followers",["bounds","stand"],2,60,TX⟩,⟨117,"reached_stands",["bounds","led_to","told","stand","place"],1,61,RN⟩,⟨121,"ways_on",["bounds","ways","stand"],1,63,Lx⟩,⟨122,"step_on",["bounds","ways","stand","number","choices","left","at"],4,64,Lv⟩,⟨123,"numbered_order",["bounds","ways","number","order","stand","left","place"],3,65,RL⟩,⟨124,"first_order",["bounds","ways"],1,66,UO⟩,⟨125,"least_order",["coins","anvils","rules"],3,67,UP⟩,⟨126,"how_many",["coins","anvils","rules"],3,68,VQ⟩,⟨129,"shown_paper",["bounds","stands"],1,70,UQ⟩,⟨132,"paper_of",["coins","anvils","rules"],3,71,VR⟩,⟨136,"check_thing",["coins","word","thing"],3,73,UN⟩,⟨137,"check_pair",["coins","word","one","other"],4,74,TR⟩,⟨138,"why_of",["coins","anvils","rules","word","one","other","one_ahead","other_ahead","one_order","other_order"],6,75,IZ⟩,⟨139,"told_of",["coins","anvils","rules","word","one","other"],6,76,Lw⟩,⟨194,"least_free",["dies","number"],1,78,Y1⟩,⟨3,"_law_open",["_law_script"],1,81,uv⟩,⟨4,"_law_pull",["_law_draw","_law_total_of","_law_cell","_law_got","_law_seed"],2,82,M6⟩,⟨5,"_law_far",["_law_draw","_law_number"],1,83,pL⟩,⟨36,"_law_near",["_law_draw","_law_total_of"],2,84,zm⟩,⟨6,"_law_num",["_law_found"],1,85,sW⟩,⟨7,"_law_like",["_law_found","_law_due"],2,86,A6⟩,⟨8,"_law_marks_ok",["_law_marks"],1,87,Q2⟩,⟨13,"_law_coin_ok",["_law_coin"],1,88,M0⟩,⟨22,"_law_any_coin",["_law_draw","_law_menu","_law_lower","_law_upper","_law_year"],1,89,Y4⟩,⟨37,"_law_number_of",["_law_draw","_law_numbers"],2,90,za⟩,⟨29,"_law_side",["_law_draw"],1,91,uw⟩,⟨195,"_law_box",[],0,92,zO⟩,⟨196,"_law_box_list",["_law_b"],1,93,yM⟩,⟨197,"_law_b_put",["_law_b","_law_coin"],2,94,zl⟩,⟨198,"_law_b_out",["_law_b","_law_number","_law_fact"],2,95,PU⟩,⟨199,"_law_b_tell",["_law_b","_law_one","_law_other"],3,96,IX⟩,⟨200,"_law_other_die",["_law_coin","_law_side_here","_law_die","_law_row"],3,97,zb⟩,⟨201,"_law_b_of",["_law_b","_law_side_here","_law_die","_law_at"],3,98,zN⟩,⟨202,"_law_b_one",["_law_b","_law_side_here","_law_die","_law_other","_law_found","_law_number"],4,99,ur⟩,⟨203,"_law_b_two",["_law_b","_law_side_here","_law_die","_law_numbers","_law_found","_law_number","_law_fresh"],4,100,uu⟩,⟨204,"_law_b_do",["_law_b","_law_deed","_law_word","_law_old"],2,101,vd⟩,⟨205,"_law_cabinet_do",["_law_cabinet","_law_deed","_law_word"],2,102,O7⟩,⟨232,"_law_box_die",["_law_draw","_law_b","_law_side_here","_law_at"],3,103,yz⟩,⟨207,"_law_box_stands",["_law_cabinet","_law_b","_law_numbers"],2,104,Y3⟩,⟨49,"_law_tried",["_law_cabinet","_law_deed"],2,105,zI⟩,⟨233,"_law_turn",["_law_draw","_law_b","_law_side_here","_law_die","_law_some","_law_way"],2,106,pW⟩,⟨11,"law",["_law_script","_law_draw","_law_cabinet","_law_b","_law_turn_here","_law_coin","_law_deed","_law_found"],1,107,oR⟩]
def Ms:List RM:=[⟨113,"Bounds","__init__","Bounds.__init__",["self","coins","anvils","rules"],4,53,0,UI⟩,⟨208,"Cabinet","__init__","Cabinet.__init__",["self"],1,79,0,Q3⟩,⟨209,"Cabinet","check_number","Cabinet.check_number",["self","number"],2,79,1,E2⟩,⟨210,"Cabinet","check_pair","Cabinet.check_pair",["self","one","other"],3,79,2,RU⟩,⟨211,"Cabinet","numbers_of","Cabinet.numbers_of",["self","side","die","field"],3,79,3,F5⟩,⟨212,"Cabinet","give_die","Cabinet.give_die",["self","side","numbers","die","field","number"],4,79,4,K5⟩,⟨213,"Cabinet","fact_rules","Cabinet.fact_rules",["self","places"],1,79,5,RV⟩,⟨214,"Cabinet","put","Cabinet.put",["self","coin"],2,79,6,T9⟩,⟨215,"Cabinet","right","Cabinet.right",["self","number","coin","old"],3,79,7,Rw⟩,⟨216,"Cabinet","out","Cabinet.out",["self","number"],2,79,8,UJ⟩,⟨217,"Cabinet","tell","Cabinet.tell",["self","one","other"],3,79,9,Vk⟩,⟨218,"Cabinet","untell","Cabinet.untell",["self","number"],2,79,10,RK⟩,⟨219,"Cabinet","one_die","Cabinet.one_die",["self","side","die","other","numbers"],4,79,11,F0⟩,⟨220,"Cabinet","two_dies","Cabinet.two_dies",["self","side","die","numbers","all_of_die","number","new_die"],4,79,12,E4⟩,⟨221,"Cabinet","numbers","Cabinet.numbers",["self"],1,79,13,K4⟩,⟨222,"Cabinet","coin","Cabinet.coin",["self","number"],2,79,14,Q4⟩,⟨223,"Cabinet","coins","Cabinet.coins",["self"],1,79,15,N7⟩,⟨224,"Cabinet","facts","Cabinet.facts",["self"],1,79,16,N6⟩,⟨225,"Cabinet","order","Cabinet.order",["self","anvils","places","numbers"],2,79,17,Ru⟩,⟨226,"Cabinet","many","Cabinet.many",["self","anvils"],2,79,18,Vj⟩,⟨227,"Cabinet","paper","Cabinet.paper",["self","anvils"],2,79,19,Rv⟩,⟨228,"Cabinet","told","Cabinet.told",["self","anvils","one","other","numbers"],4,79,20,Vl⟩,⟨229,"Cabinet","fewest","Cabinet.fewest",["self"],1,79,21,RJ⟩,⟨230,"Cabinet","twin","Cabinet.twin",["self"],1,79,22,Vm⟩]
def con:List (Str×D):=[("LAST_SPOT",.int 7),("MOST_COINS",.int 9),("LAST_DIE",.int 99),("LAST_YEAR",.int 9999),("SIDES",.tup [(.str "lower"),(.str "upper")]),("MOST_ANVILS",.int 9),("RULE_WORDS",.tup [(.str "coin"),(.str "lower"),(.str "upper")]),("YEAR_FIELD",.int 4)]
def gd:List (Str×List D):=[("DIE_FIELDS",[.tup [.str "lower",.int 0],.tup [.str "upper",.int 2]])]
def exc:List Str:=["BadAnvils","BadCoin","BadList","BadRule","BadSide","Full","NoCoin","NoDie","NoFact","NoOrder","NoPlace","SameOne","TooMany"]
def c0:f6:=⟨[],[],true,F.map λr=>(r.nm,r.id),con,["len","enumerate","list","tuple","isinstance","all","range","int","bool","str","sorted","set","sum","reversed"],exc,gd,[("Bounds",113),("Cabinet",208)],Ms.map λr=>(r.nm,r.cl,r.id),[("size","Bounds"),("full","Bounds"),("room","Bounds"),("worn_by_place","Bounds"),("later_by_place","Bounds"),("lower_dies","Bounds"),("needed_by_place","Bounds"),("held","Cabinet"),("claims","Cabinet"),("last_coin","Cabinet"),("last_fact","Cabinet")],true,true⟩
noncomputable abbrev T:Nat->Option aM:=pO F Ms
theorem tx:jS c0 F Ms top BA:=by
 refine⟨rfl,rfl,by decide +kernel,by decide +kernel,by decide +kernel,by decide +kernel,?_,?_,?_,?_⟩
 all_goals
  repeat first
   |exact BF.nil
   |exact BM.nil
   |exact YF.nil
   |exact YM.nil
   |refine YF.cons (by kernel_rfl) ?_
   |refine YM.cons (by kernel_rfl) ?_
   |refine BF.cons (λ_ _ _ _ _ _=>(by(repeat refine An λ_=>?_);exact Am rfl)) ?_
   |refine BM.cons (λ_ _ _ _ _ _=>(by(repeat refine An λ_=>?_);exact Am rfl)) ?_
inductive pF:List DictEntry->List (Str×V)->Prop
 |nil:pF [] []
 |cons {h:Int} {x:Str} {t:Tok} {u:Value} {v:V} {es:List DictEntry} {vs:List (Str×V)} (r:RelV v u) (q:pF es vs):pF (⟨h,.str x t,u⟩::es) ((x,v)::vs)
theorem pF.find{es vs}(x:Str)(h:pF es vs):A3 (vs.lookup x) (findBy Value.isStrOf es.toArray x):=by
 induction h with
 |nil=>trivial
 |cons r q ih =>
  rename_i h y t u v es vs;unfold findBy at ih ⊢;rw[List.find?_toArray] at ih ⊢;rw[gM,cv];by_cases e:x=y
  ·rw[show(x==y)=true from by simp[e],show Value.isStrOf x (.str y t)=true from by simp[Value.isStrOf,e]];exact r
  ·rw[show(x==y)=false from by simpa using e,show Value.isStrOf x (.str y t)=false from by simp[Value.isStrOf];exact λz=>e (z.symm)];exact ih
theorem all_mk{l:PySem.W.OpenLaw}{w:World}{K:PySem.W.Frag}{h:Heap}{mg:Str->Option Value}{fa:Addr}{xT xS tZ:Addr}{t0 t1 t2 t3 se sd t5 rZ rY rX t7 nk nj ni nh:Tok}{xO:Array (Option Value)}{xQ:Nat}{xN:Array (Option Value)}{xP:Nat}{Ia:Nat}{lA lz:Int}(X:K.In h)(G:h.Ns mainGlobals mg)(Ht:mg "law"=some (.ref fa))(I:jT K c0 F Ms top BA)(e0:PySem.W.nsIn K mainGlobals "LAST_SPOT"=some (some (Value.int 7 t0)))(e1:PySem.W.nsIn K mainGlobals "MOST_COINS"=some (some (Value.int 9 t1)))(e2:PySem.W.nsIn K mainGlobals "LAST_DIE"=some (some (Value.int 99 t2)))(e3:PySem.W.nsIn K mainGlobals "LAST_YEAR"=some (some (Value.int 9999 t3)))(e4:PySem.W.nsIn K mainGlobals "SIDES"=some (some (.ref xT)))(Iz:K.lookup xT=some ⟨.type "tuple",none,.seq #[Value.str "lower" se,Value.str "upper" sd] xQ,xO⟩)(e5:PySem.W.nsIn K mainGlobals "MOST_ANVILS"=some (some (Value.int 9 t5)))(e6:PySem.W.nsIn K mainGlobals "RULE_WORDS"=some (some (.ref xS)))(Iy:K.lookup xS=some ⟨.type "tuple",none,.seq #[Value.str "coin" rZ,Value.str "lower" rY,Value.str "upper" rX] xP,xN⟩)(e7:PySem.W.nsIn K mainGlobals "YEAR_FIELD"=some (some (Value.int 4 t7)))(g0:PySem.W.nsIn K mainGlobals "DIE_FIELDS"=some (some (.ref tZ)))(Ib:K.lookup tZ=some ⟨.type "dict",none,.dict #[⟨lA,Value.str "lower" nk,Value.int 0 nj⟩,⟨lz,Value.str "upper" ni,Value.int 2 nh⟩] Ia,#[]⟩)(nP:lA=PyData.keyHash w.params "lower")(nO:lz=PyData.keyHash w.params "upper")(HZ:(tZ==sysModules)=false)
  : ∃fd:FuncData,(∀(s:Shared) (v:Value),BindsTo s fd ⟨[v],[]⟩ [("_law_script",v)])/\∀base:Heap,K.In base->base.Ns mainGlobals mg->fR l.prog w K mg base (gg l.prog w) 80 fa fd ["_law_script"] (mU exc K 1 (b0 T 40 11)):=by
 have A:lE w K mg c0 T:=by
  refine Ky I tx X G (λx d hx=>?_) (λx kvs hx=>?_)
  ·have hm:=aH hx;simp only[c0,con,List.mem_cons,List.mem_nil_iff,or_false] at hm;rcases hm with z|z|z|z|z|z|z|z
   ·cases z;exact⟨(.int 7),_,bJ X G e0,⟨_,rfl⟩,λ_ _=>.int _⟩
   ·cases z;exact⟨(.int 9),_,bJ X G e1,⟨_,rfl⟩,λ_ _=>.int _⟩
   ·cases z;exact⟨(.int 99),_,bJ X G e2,⟨_,rfl⟩,λ_ _=>.int _⟩
   ·cases z;exact⟨(.int 9999),_,bJ X G e3,⟨_,rfl⟩,λ_ _=>.int _⟩
   ·cases z;exact⟨.ref xT,_,bJ X G e4,rfl,λ_ _=>.tup (vs:=[.str "lower",.str "upper"]) (.inr ⟨_,_,_,Iz,rfl,rfl,rfl,(by show 2<=sizeLine;decide),.cons ⟨_,rfl⟩ (.cons ⟨_,rfl⟩ (.nil))⟩) (.cons (.str _) (.cons (.str _) (.nil)))⟩
   ·cases z;exact⟨(.int 9),_,bJ X G e5,⟨_,rfl⟩,λ_ _=>.int _⟩
   ·cases z;exact⟨.ref xS,_,bJ X G e6,rfl,λ_ _=>.tup (vs:=[.str "coin",.str "lower",.str "upper"]) (.inr ⟨_,_,_,Iy,rfl,rfl,rfl,(by show 3<=sizeLine;decide),.cons ⟨_,rfl⟩ (.cons ⟨_,rfl⟩ (.cons ⟨_,rfl⟩ (.nil)))⟩) (.cons (.str _) (.cons (.str _) (.cons (.str _) (.nil))))⟩
   ·cases z;exact⟨(.int 4),_,bJ X G e7,⟨_,rfl⟩,λ_ _=>.int _⟩
  ·have hm:=aH hx;simp only[c0,gd,List.mem_cons,List.mem_nil_iff,or_false] at hm;have z:=hm
   ·cases z;have er:pF [⟨lA,Value.str "lower" nk,Value.int 0 nj⟩,⟨lz,Value.str "upper" ni,Value.int 2 nh⟩] [("lower",.int 0),("upper",.int 2)]:=.cons (v:=.int 0) ⟨_,rfl⟩ (.cons (v:=.int 2) ⟨_,rfl⟩ (.nil));exact⟨tZ,_,bJ X G g0,⟨_,_,Ib,⟨⟨_,_,rfl,nP⟩,⟨⟨_,_,rfl,nO⟩,True.intro⟩⟩,HZ,λx=>er.find x⟩,.cons (λ_ _=>.int _) (.cons (λ_ _=>.int _) (.nil))⟩
 obtain⟨f,fd,O,a,t⟩:=Fu I tx _ (bc (i:=72) rfl);cases Ht.symm.trans (bJ X G a);obtain⟨oc,od,kV,doc,pm,an,eU,ct,ky,rfl,lk,kh⟩:=O.fn.ex;exact⟨_,λs v=>.of_eq rfl,λbase kU rP=>QY kU rP A 40 11 _ _ fa _ rfl O⟩
theorem walk{l:PySem.W.OpenLaw}{q:Program}{loose:List Str}{XP:(Str->Option Value)->Heap->Prop}{YP:World->Heap->Prop}{d:DefRec}{K:Params->PySem.W.Frag}(hn:l.most=some 63)(rh:d.params.defaults=[])(hY:∀(w:World) (h:Heap),YP w h->(K w.params).In h)(F:∀ (w:World) (mg:Str->Option Value) (fa:Addr) (h:Heap),(K w.params).In h->h.Ns mainGlobals mg->mg d.name=some (.ref fa) ->
   ∃ fd:FuncData,(∀ (s:Shared) (u:Value),BindsTo s fd ⟨[u],[]⟩ [("_law_script",u)])/\∀ base:Heap,(K w.params).In base->base.Ns mainGlobals mg->fR l.prog w (K w.params) mg base (gg l.prog w) 80 fa fd ["_law_script"] (mU exc (K w.params) 1 (b0 T 40 11))) :
  PySem.W.WalkO q loose XP YP l.row.toRowW d [] (λf vs=>PySem.call f vs) :=
 L2.Na (n:=63) (k:=80) (x:="_law_script") (CX:=λw=>gg l.prog w) (sp:=λw=>mU exc (K w.params) 1 (b0 T 40 11)) hn (by decide) rh ⟨rfl,by decide,by decide⟩ hY F (λw H a ns hl hO hS=>IS hO hS (VN (k:=27) ⟨⟨⟨rfl,rfl⟩,rfl,rfl,⟨rfl,rfl⟩,⟨rfl,rfl⟩,rfl,rfl,rfl,rfl,rfl,rfl,rfl,rfl,rfl,rfl,rfl,rfl,rfl,rfl,rfl,rfl⟩,⟨rfl,rfl,rfl,rfl,rfl,rfl,rfl,rfl,rfl,rfl,rfl,rfl,rfl⟩,rfl,rfl,rfl,rfl,rfl,rfl,rfl,rfl,rfl,rfl,rfl,rfl⟩)) λ_ _ _ _ _ ⟨_,_,_,_,_,_,_,z⟩=>z
end Lk
end _X
open _X
open PySem PySem.W PyProof.Rows
set_option maxRecDepth 100000 in
set_option maxHeartbeats 0 in
theorem PySem.Challenge.cw_trussel_k43_dies_made_one_and_two_holds : PySem.Challenge.rw_trussel_k43_dies_made_one_and_two.Holds := by
 w_on;o_law;k_head;(case hw=>w_witness2)
 k_fill
 refine Lk.walk (l:=PySem.Challenge.rw_trussel_k43_dies_made_one_and_two) rfl rfl (fun w h Y=>PySem.W.kIn_of Y) ?F
 case F =>
  intro w mg fa h KX G hmg
  refine' Lk.all_mk KX G hmg ⟨?zz1,?zz2,?zz3,?zz4,?zz5,?zz6,?zz7⟩ ?_ ?_ ?_ ?_ ?_ ?_ ?_ ?_ ?_ ?_ ?_ ?_ ?_ ?_ ?_
  (case zz1=>repeat' first | (with_reducible show _=_;k_is) | exact M.PF.nil | apply M.PF.cons)
  (case zz2=>repeat' first | (with_reducible show _=_;k_is) | exact M.PM.nil | apply M.PM.cons)
  (case zz3=>repeat' first | (with_reducible show _=_;k_is) | exact M.PC.nil | apply M.PC.cons)
  (case zz4=>repeat' first | (with_reducible show _=_;k_is) | exact M.PA.nil | apply M.PA.cons)
  (case zz5=>repeat' first | (with_reducible show _=_;k_is) | exact M.PB.nil | apply M.PB.cons)
  (case zz6=>repeat' first | (with_reducible show _=_;first | (with_reducible show PySem.W.excIn _ _ _ _=true;k_exc) | k_is) | exact M.PX.nil | apply M.PX.cons)
  (case zz7=>kernel_rfl)
  all_goals try (with_reducible show _=_;k_is)
  all_goals try ((with_reducible show _=_);rfl)
#print axioms PySem.Challenge.cw_trussel_k43_dies_made_one_and_two_holds
