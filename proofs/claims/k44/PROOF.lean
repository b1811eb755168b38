import PyProof.Rows.All
import Wide.All
import OpenK.AllK
import Wide.FinOn
import Lean
import PyProof.EqAt
import PyProof.EqKinds
import PyProof.TupleCall
import PySem.Challenge.RW_trussel_k44_whole_cabinets_by_any_deeds
set_option Elab.async false
set_option linter.all false
set_option maxRecDepth 100000
set_option maxHeartbeats 4000000
set_option genInjectivity false
set_option bootstrap.genMatcherCode false
set_option genSizeOf false
local macro_rules|`(def $i:declId $s:optDeclSig $v:declVal)=>`(noncomputable def $i:declId $s:optDeclSig $v:declVal)
structure PySem.W.Fast:Prop where(tw6870323683905778285 tw8885717755847966907 tw1019270460377532632 tw11285028752894058699 tw7508727665561294418 tw3148326549996314687 tw10940668613118526182 tw7146232705368064850 tw17401602454902871277 tw15700918389231470133 tw2050759094566530844 tw12876550356269201303 tw16408832767156931614 tw13187165548629527120 tw15513093786820684874 tw10709495851899006457 tw5945689125119368997 tw17494594648100720934 tw3884991387995800441 tw11366881867005741751 tw11901691277568353067 tw15940276435874481299 tw15435778103619284386 tw17092293348556649153 tw18682243182256641 tw658650676810358961 tw13336041350598492206 tw15427588830224609860 tw18368512250720600772 tw9683958830766837480 tw6342463568455176641 tw8773685066737572226 tw12473245573510334887 tw13288414009457777971 tw4037505516384269815 tw4904649145022235002 tw16790806402154329172 tw11347264962870767127 tw16971953423389685069 tw10958931016819865682 tw324019992228516701 tw7846155899111367860 tw2055770863075332206 tw11068456259843873834 tw6345122486378878627 tw15108135335722654809 tw18146928492545071439 tw253068518155758659 tw8218223191177860713 tw14563349021024874096 tw9042390059174330978 tw15158004594166891525 tw9337515651283773541 tw5615238758180923345 tw6510343346632194225 tw3426709580735344360 tw3117622147758887054 tw361176504244887892 tw15779133774666438505 tw16735050947941257322 tw1906277661135518028 tw3215633111140192723 tw10728353603039121886 tw425323499729056213 tw5539921390108024608 tw15120762702973226498 tw14446995850805752474 tw17570121021140175347 tw1863104999122305437 tw2044510053642404854 tw14314566904427607466 tw16082515716257516883 tw16139545712902852043 tw8763576889401107629 tw11468339216091117665 tw16228391514975523402 tw3665427385268087044 tw911224425649509249 tw13657070554623465842 tw16940537768502256804 tw2009908801147303135 tw15580065605016951003 tw18424705500130178488 tw15388253801269944451 tw1142828367437606012 tw522776046122815794 tw16090304926353333968 tw15533715883117150369 tw7929057797930006787 tw2336355101722956764 tw16342566385348171231 tw8172726431691697386 tw5066949853825183455 tw16479475507150247402 tw10948069718454925005 tw15295330270793389130 tw1759474717405834905 tw3699111132731122854 tw3488818918923392270 tw18437338473108034516 tw8962758170912835251 tw15177079225252971605 tw7779963617338978392 tw12031467573997886731 tw15324917985470468222 tw12047212129357045795 tw8125196289740877130 tw17147237611759245212 tw13073347278898574971 tw3525608824843118981 tw5106955966860521699 tw10255452305299996020 tw16378717997337128068 tw5045681008997899049 tw512032126650098796 tw5290196243332678232 tw16354586450547425759 tw6411409716723482047 tw10244856034882363196 tw4741915435283611219 tw12816049387099887955 tw1835653410665378282 tw9974981859334866967 tw7568670791015890675 tw5294861750766556160 tw14961941560514435916 tw3176920074510326328 tw8416834060046803128 tw2597732524219214293 tw13327729996915250690 tw13555764349547396928 tw16885056538570000785 tw8133795891627611852 tw13406390427854234936 tw10360649542209246184 tw10970265781822394292 tw6042926753720930160 tw8852863196902706186 tw17272843526774159305 tw5132480468686790994 tw12717148158667456004 tw10133055244107422516 tw13270441776173156188 tw7127604401967914565 tw5077201370739239117 tw14401736606244245412 tw10747888011517490523 tw5066028526374804652 tw5626658419898716672 tw4827717197965457484 tw4920595986637574207 tw7129053887712919553 tw1634045184213954853 tw16111026203957056335 tw1634229975532055188 tw3142092856488653980 tw16956792092631754621 tw14471134616737788414 tw6188830659044222724 tw7888223120354208268 tw15166318480357979255 tw15794718604712012469 tw13981130559215786819 tw12119299146303818269 tw449611809923892797 tw1340148031156400637 tw18332188429760861245 tw8741361280136548958 tw4361534643711328339 tw1380820640591096024 tw1122045876349242047 tw10779575652911354345 tw7683641607883640361 tw11325869873036456256 tw15301642461251247162 tw13858723428114588176 tw4882178514267252968 tw10756786641955512119 tw2078389995533086547 tw15564849371603123276 tw18064152323220691424 tw12264328213721144720 tw3818175159202306495 tw871513259379520575 tw14548157663671536281 tw13881558133582953296 tw15132177862731039436 tw8801580133089843426 tw5043365843192173105 tw3073792847040849289 tw8127439692469773299 tw3895801625254988739 tw5035993215080595846 tw11906138779068857852 tw7770933881674786974 tw10149070684636715704 tw921613982505397854 tw12638600808944998684 tw7343019261210640423 tw13187739210620247061 tw17519175565755925595 tw9762506511061809441 tw10418187695393832250 tw16170055927749377514 tw17159485212555498725 tw13429079393380963447 tw6880537419610710609 tw2572072151420395376 tw3929480949933979032 tw7374081802188884900 tw4111315976108667797 tw6766705961213308302 tw3612225283851623050 tw3453426660585865384 tw3897354959698429755 tw12377856312640157578 tw2298680319813918595 tw2924447613554347847 tw1199540022743441171 tw3936830736477194841 tw10759301096518850235 tw1154968057889330153 tw3071198278134209319 tw4109600533396586529 tw17895700628113624644 tw14905232430027804478 tw10398253813046608156 tw8514086032074995671 tw1229225425549992132 tw4144511467365676337 tw3989833249939516223 tw1670901599918320103 tw18364198205431638523 tw1694732102496631959 tw13370729570240344715 tw2440494121938770858 tw11438438381886360821 tw17282014406023961118 tw2872301685108454324 tw5684104087332386991 tw11557399570634290201 tw11802980934113330283 tw11304427371963709131 tw5762875664465052857 tw10432833670634339661 tw9619872115542010315 tw17595917401345541200 tw7261891423327427242 tw10482267073790305474 tw5642913541937844831 tw14825993805769950177 tw17773597589880819564 tw349144036135853314 tw17024507426287947124 tw3420502935238075464 tw828186674658986791 tw15024449358716577536 tw12691996131158494029 tw1662437167600575689 tw7309563694819032927 tw14693873617873509962 tw2508502509463298357 tw1885625967417921334 tw7005351483753017164 tw15135891425256462093 tw18321953025785456054 tw3329397186633717084 tw12580339285588330889 tw1191017992859974607 tw9638826587637918242 tw8208577923940714194 tw16067829282286357485 tw1400208638732092666 tw15134715713493764559 tw10777044555250511589 tw4031065030596612094 tw17236940071252331738 tw17078166332207294967 tw11182814324117796947 tw940490402157505830 tw12336015652798488891 tw18175432344838566733 tw6715157818852261279 tw1965977414247265697 tw9954734104759230563 tw13774684335272782317 tw16754083003473539574 tw10823377434793404789 tw14811505408016193276 tw6132616503757115541 tw4239106522696808771 tw18405253191655396406 tw16347935509255322872 tw3273837120416559834 tw9387940617648084565 tw2890376422200444738 tw11862257067748260723 tw16268308778130511091 tw10505523744361938855 tw4267111342291051366 tw2259849882430541390 tw10496396442844923392 tw11137471895103685843 tw16335768778132851651 tw16562881950647189292 tw1664791852491399613 tw239538811384605777 tw6123039467092261484 tw18352839458893810670 tw11460191139615982448 tw4070168966879052211 tw7492272362941136339 tw5903544202639898072 tw11251008709918667297 tw9397366927124781932 tw15413642779774135655 tw13706938341523274197 tw12649987677166666352 tw12776454577887284905 tw12241248831997638036 tw3484279136414238370 tw18041059527255293489 tw13844745314120917113 tw5820898852051562278 tw11033636111189375903 tw8088089949160473467 tw4922976411365042880 tw9348979675135430627 tw14875180449837417469 tw2829986523367864232 tw3091660040622915130 tw16680921224454481457 tw16215204977032284941 tw5908871517554681644 tw3737455799799838240 tw13596954867866196944 tw12587185775128790470 tw16911789930532487179 tw6121495782300340622 tw7429959338321535588 tw12619384277201430396 tw8016636630837799955 tw4946073345979016717 tw18029597750631587861 tw17119132456820299552 tw4592746434470933690 tw14497862754248267781 tw5981786108278930391 tw17975681851581929821 tw14062300466519855213 tw15402251136886576563 tw11471182450210840466 tw9139917396957552760 tw1685745408383657747 tw15690520478679702212 tw6484401085177103128 tw16775653130159864219 tw3169644947078314272 tw15409862522018872762 tw10599266490346559996 tw1041526612153327358 tw4902516995482047921 tw8783380265390915033 tw2483838249744813616 tw3823757007918696036 tw3009870127351531380 tw4115032788140665459 tw3479160274467121114 tw17933079894380835294 tw9951554917499062780 tw16441020369726064636 tw9909527317969576946 tw10911848744505945811 tw10957944005977383442 tw17732885479849828579 tw6342175807379144266 tw527129554941058108 tw14697577866094852922 tw2516704783411740105 tw18316959978371181101 tw17250843203712923903 tw7612132016364485797 tw6890298605390744526 tw10263624461365720526 tw16962148993930832017 tw18171448658438305654 tw1606529772517031235 tw11502649089591574506 tw14090727310837890172 tw17938205895071627952 tw16473307381354342303 tw11309991603145982386 tw16249740873354696031 tw5889770288508265244 tw3344255611085379831 tw17133856634707906014 tw1852995753287100595 tw12414174875206825252 tw9413139526171490167 tw16861971940569861095 tw13045125433970821626 tw12322724425630941071 tw9506209858485578028 tw16013279317610084831 tw8457413156838156669 tw9854939234490170380 tw7102365894562482362 tw9714532006969709837 tw3514451434332304823 tw12685740929888604068 tw7944210269212707440 tw11111004126806849151 tw5029562077141961724 tw12413045427190408063 tw7307461294494517093 tw12958842103375301248 tw8913647193658758656 tw599264965791808435 tw2413467032145692906 tw11716924298051858833 tw15409017281763376402 tw9177248427926774919 tw17286698460741662770 tw14898869448189586579 tw14632332742978822291 tw8577709546857553410 tw2922925597937426759 tw4553085949835653622 tw6838141280950391112 tw2312013840197548151 tw7807664051864470611 tw7663933461110438166 tw6625349043513538387 tw4628313328155480838 tw16861351065598570556 tw5371053655265279016 tw14007077639980290224 tw4645120554105819045 tw9096029399948947829 tw15027409327080849416 tw17023370979636491640 tw4529194359318037516 tw3368142697712382762 tw10078432302641351322 tw11938093915232326802 tw4308659040471606844 tw13161702140686458159 tw4331666644880121793 tw9591682207004277417 tw11373483623525129045 tw7039094145515395184 tw1362788392216469237 tw17905013828981033077 tw18039453811858355066 tw1322666333808828249 tw17507970556722333114 tw796683654194371422 tw1659678438294655444 tw5886670353161334510 tw16215537336221198360 tw18378527595021701230 tw135570419801054447 tw8837084117817813613 tw4296551758789702818 tw13905219161747848460 tw4804579222716103395 tw10264025195798413721 tw11605929926085473573 tw6806730537510177611 tw9696275282109261243 tw15747313482815009225 tw2787947532796937737 tw18395678688150855645 tw11336301458106725989 tw6885766860002178277 tw17602913415306028189 tw13594345809732019622 tw9763504786597760063 tw1800444920210096994 tw11330159124347762736 tw3362640213019527777 tw12521560878480200265 tw11506241473911559373 tw7906733454776592285 tw5715126429310103300 tw3830150769115664058 tw7964184931570186813 tw256947674071650383 tw9686932688218574157 tw9203846584178102754 tw1066716475935320080 tw3279230182883700019 tw7701050628279681587 tw14077558928838976143 tw13254707721488392793 tw12721729207907609420 tw12614089717182856179 tw17843117482180969574 tw8967103669502050211 tw8950156810806302373 tw4395822027746313793 tw1688481032164169903 tw4877471674534427020 tw17661381513050053507 tw7856376215906530098 tw16020156338310180222 tw18427307590068428738 tw7654994042669501530 tw11212780480029276861 tw1045397806606380439 tw13197964566872780814 tw18128275978681362222 tw15965876059242696226 tw4503760636523585797 tw7877508691781410042 tw1620239855416848329 tw7333880177576662122 tw15196924250312288855 tw11375168258748777089 tw16037909955532050383 tw13667706327518009921 tw14351562062262605826 tw2426439371023694753 tw16898594520946802578 tw15336032411890508421 tw15854925929845101468 tw5595841976052884022 tw10785167808983758333 tw2116747677602447758 tw15466847659394742658 tw3279020945237075172 tw12672204457702836351 tw10382081788517596336 tw8837828068521421173 tw14426948893190326954 tw3054605540523789353 tw14375943102137408482 tw10629874358338231821 tw5024042064905902431 tw7674069017667653506 tw4291146984830250744 tw8312546142449266889 tw10888975614672342402 tw16232944129721481854 tw14330711989658810127 tw16419587889957164572 tw2279622844046977233 tw5314353274184732261 tw5519613621960872058 tw17444223206368925675 tw12679415598227355649 tw12573204942022228315 tw1424732655106497140 tw2744857801728615446 tw1014668814046303976 tw9170383155950291391 tw1661856751787976539 tw2089208228974918533 tw806149351788519499 tw5211833313872778397 tw11207241606830580679 tw3002630230069843490 tw11981662124018302102 tw9519367962176399866 tw3246802101986203059 tw13375990589993139796 tw1258033550687755427 tw1360098660761795356 tw4494834140539731498 tw4331330282727072976 tw13020495159196495074 tw12534987921187716937 tw15130151789102391781 tw4473441838652302148 tw14990135993783062914 tw17709343293392809481 tw15460963997129796263 tw8134720674422202099 tw12676646594875666367 tw6714167229135484676 tw210386088166730407 tw16209690378949238833 tw9364232432017099311 tw9232865755839818032 tw12902074402947080981 tw10857348490910682205 tw17897017567178782931 tw12528380945829412121 tw10909782222877497562 tw15364422410498511255 tw2199682907894754205 tw5124681067186265292 tw7821783374167977907 tw8273764764893328215 tw8032802335561777633 tw10323060279643330232 tw13386422273354960282 tw1268372634095358420 tw16672801703801771548 tw2389295085511359908 tw497125200455815550 tw14367360125511121973 tw13238265275945129707 tw6898515337447604712 tw12390660826328712321 tw6446738165495212094 tw11778745000750925349 tw12606464530519859522 tw3410029086806368712 tw6800232183058055429 tw2773076850793948956 tw2697893406892064739 tw1409265818233669335 tw10867243342012663984 tw4015466148965734986 tw4733330027903461361 tw6170945473329199260 tw16649741672709255553 tw16831462252423199500 tw11770576258480516794 tw10471719291584560042 tw13492309562731028827 tw5380140433279020750 tw3089174127905523386 tw11138122486040921815 tw4826653389543374159 tw16382735813851470933 tw14611436377991752196 tw17294396241486785534 tw2920433728085178955 tw5860672958081132550 tw7306087192302232735 tw629184480356601914 tw1234402002595086728 tw8386574442954540945 tw6764482779392724278 tw6856291033537989300 tw5407780763714565915 tw3485622311395090517 tw12348372967542367022 tw4132383267482361404 tw3096899237232505345 tw9612412816198881728 tw17359132410591155812 tw4320053801273992079 tw17865328236719416585 tw16413928741342138035 tw225089990354128782 tw4319360462561389395 tw13882089745755213623 tw950312869252748769 tw16478198155919773656 tw14384592193676073964 tw10190080122293743253 tw7436766917566586875 tw4401595541713630456 tw792725286556470676 tw17401922658753560897 tw2569184929884541221 tw5070359478136719264 tw10012408064092158649 tw9291534400521464510 tw7621129157933825691 tw14565173735685931917 tw14437435587660839626 tw4745227797448576829 tw8209224854175261514 tw7903997402444461446 tw15461093819246837476 tw7945203015349617119 tw16959875421070920135 tw4766700490018790712 tw942788812053458331 tw747640992842098109 tw12358932923473601761 tw8093494095574725337 tw7330208110207802392 tw18259478776890237406 tw17826604821444626501 tw8316673170257717707 tw1198880803696407706 tw4859422009910244716 tw2330180479736702918 tw16137897484694144664 tw10599911158806256699 tw14451170149837084340 tw18162583337549127157 tw4484413320284127243 tw10366519371324559473 tw15623499519299197991 tw11287662635757251774 tw9198477230543889810 tw7031593443909571030 tw5857656394457007318 tw8041750996747666047 tw4667697519482423743 tw5403842853494108909 tw12519397468434754500 tw402737839156036356 tw14083682611014394471 tw10539855113776316563 tw4906028292800461009 tw15672633828114534376 tw273441799883163090 tw15354357733179649970 tw6107488828756979977 tw13166309737850591323 tw14418886585400803870 tw14870511880742088660 tw7226375943638300233 tw1762203041346771758 tw3414825971852690197 tw3241920763453158915 tw18199068757357593975 tw9139777560566357806 tw16963148059620346502 tw1360473190824892612 tw7567004059387129680 tw16694982785711060410 tw15471525607290346325 tw4078889753548193598 tw2986568886753728884 tw17215709607287502539 tw12699306728647852727 tw4787178989153191068 tw4345287711177354539 tw4760242742478043419 tw7162872049368780928 tw14409387622482723741 tw2767415253957868852 tw11401831968326884598 tw17111514038479017662 tw2336118585095503278 tw12805283606445125366 tw4658986642953047574 tw15450134110492803561 tw3765567694775350927 tw14756417730330062654 tw10679799014131571756 tw10811601266599211343 tw18023166104017693049 tw7797455203608873291 tw17895287920672990226 tw7619493677464557963 tw16036923645290940809 tw15187793144230038574 tw1663223340952030804 tw1804241508178388179 tw13805692776012173830 tw8463800111389398346 tw17016573284184019448 tw13035980052538431362 tw12957613233277003483 tw8084500392692398677 tw4954909981167416361 tw2663634739360560351 tw8761919553943804949 tw14679782783187876983 tw3011274449006298889 tw6371695491380754012 tw657869348168753062 tw17675834227321621198 tw6791294645847944808 tw21329625239418934 tw11463343269993656383 tw17818030615286843523 tw2109762785920994436 tw14059077568822381488 tw4311722884969252684 tw8755008002644318800 tw15692137853672510069 tw589722632926717340 tw91518407194065026 tw13988933432328298246 tw17223002368343559201 tw15162454667534899163 tw12068670227956294398 tw4226505784990621280 tw16241320741607793746 tw9216691201656986093 tw11999191839045384128 tw15388224127812091687 tw2191236630714821362 tw9886356542566088939 tw11456493021733172621 tw1887357297134607390 tw479857803845751419 tw14366975926301513024 tw18429248935935963658 tw878747123108610529 tw11742311509066355052 tw14600021531573976325 tw5108141783624711491 tw10440604885091398047 tw15217355444375960189 tw6384859319701896933 tw2967272712138893715 tw9149772286917839460 tw294238176735614700 tw5144720066603491639 tw14352946989096129502 tw4356498681716252246 tw15754815094408179945 tw9551580421359813742 tw4105563978721427605 tw14710491072921984392 tw9963967335740324890 tw2351695754586457266 tw18437557412515470173 tw11240343765302349722 tw10796766745586031526 tw15386855679553106175 tw1667952420825561088 tw14553516775300797856 tw4826442999323117744 tw5327661195139939858 tw15036391155306678969 tw6807109737979174788 tw9466752186154098315 tw12400420768566658734 tw4225386663654197105 tw10931070043825626252 tw13906219365484160543 tw843094667762781697 tw14662546110516446027 tw15672002741841760513 tw6853257880365245688 tw119517885676650502 tw6921012293100476285 tw8748052854653893559 tw7215923151810614682 tw17773195836584110986 tw13551235826759391458 tw11160569329337286140 tw16381833621177765823 tw7984925602985957054 tw9082341706567927135 tw7468661169592079660 tw7074952359895701455 tw11402978039070736169 tw6874876284155446857 tw17878323881236444702 tw17517141278682123234 tw16931120348024216478 tw3555098790571928875 tw12756622926136552492 tw10075463920295727909 tw1697458342238597300 tw4165976394215508180 tw16125267619554906725 tw4350730055974925156 tw6320912902096712198 tw841861062070903163 tw10370956469605672872 tw8835337506194290062 tw6575726271632755902 tw5856217866366037806 tw2246880131808821642 tw15811453554849445957 tw5701078878867517246 tw7135908054138801366 tw1464437965871901259 tw13642423923479033141 tw15262263066172065926 tw10888956749900320536 tw10532472514435435784 tw4944739802016610515 tw9055208249844233262 tw2402922335952440948 tw9722727690639703125 tw4736927826102907810 tw13807911012033543871 tw17052131650631056339 tw6616118084115419079 tw11906469047712693315 tw16241917392881920381 tw5204824800330801488 tw9467954722590052516 tw474116527196344828 tw10060831141842782087 tw12909019507984533163 tw16452886498501587391 tw10821432546240016803 tw1426715543618172727 tw12021563256410343475 tw4502355709343707707 tw5189241608958412144 tw17175325725693962788 tw2953112808421740240 tw8811133417099812190:True)
namespace _X
local macro_rules|`(tactic|omega)=>`(tactic|lia)
def CP:=@PySem.wpAny_binaryOp_repeat_ref
def CQ:=@PySem.evalArgs_none
def CS:=@PySem.W.hideAll_get
def CT:=@List.mergeSort_perm
def CU:=@List.map_eq_nil_iff
def CV:=@List.getElem?_range
def Ji:=@PySem.wpAny_newList
def Jj:=@PySem.W.of_hideAll
def Jk:=@PySem.W.kitx_tuple
def Jl:=@Array.append_assoc
def aA:=@List.size_toArray
def aB:=@List.getElem?_map
def aC:=@List.getElem?_eq_getElem
def aD:=@List.getElem?_eq_some_iff
def aF:=@Option.some.inj
def aG:=@if_pos
def aH:=@List.getElem?_append_left
def aI:=@Nat.ne_of_lt
def aJ:=@Nat.le_trans
def aK:=@PySem.mem_of_lookup
def aL:=@decide_eq_true
def aN:=@of_decide_eq_true
def aR:=@List.getElem?_set_ne
def aU:=@List.mem_append_right
def aV:=@PySem.wpAny_mono
def aW:=@PySem.Heap.get?_update_self
def aX:=@Nat.lt_irrefl
def aY:=@List.getElem?_set_self
def aZ:=@Ne.symm
def aa:=@PySem.wpAny_bind
def ae:=@Option.map_eq_some_iff
def ag:=@Option.bind_eq_some_iff
def ah:=@PySem.Heap.get?_push_of_some
def ai:=@PySem.wpAny_pure
def aj:=@Nat.le_refl
def ak:=@Nat.lt_of_lt_of_le
def ao:=@List.length_map
def au:=@List.mem_map
def av:=@PySem.Heap.lt_size
def aw:=@PySem.Heap.get?_push_size
def ax:=@decide_eq_false
def ay:=@List.mem_cons
def az:=@if_neg
def bA:=@Bool.false_ne_true
def bD:=@PySem.wpAny_newObj_type
def bE:=@List.mem_filter
def bG:=@Bool.eq_iff_iff
def bK:=@PyProof.Rows.callWith_type1
def bL:=@PySem.wpAny_call_entry
def bP:=@PyProof.Rows.slot_tuple_getitem
def bQ:=@List.mem_cons_of_mem
def bS:=@PySem.W.mg_of
def bT:=@PySem.W.kia_one
def bU:=@List.replicate_succ
def bV:=@List.map_congr_left
def bX:=@Nat.zero_le
def bY:=@PySem.Heap.get?_update_other
def ba:=@Bool.and_eq_true
def bc:=@List.map_cons
def bg:=@List.mem_of_getElem?
def bj:=@List.map_map
def bo:=@Bool.eq_false_iff
def bq:=@PySem.wpAny_holding
def br:=@PySem.Obj.data_mapFields
def bt:=@Nat.ne_of_gt
def bu:=@List.eq_nil_of_length_eq_zero
def bz:=@List.length_append
def cA:=@List.length_take
def cE:=@List.take_succ
def cG:=@PySem.wpAny_Call_Name_kw
def cH:=@List.pairwise_map
def cJ:=@PySem.Around.under_plainId
def cL:=@List.take_length
def cM:=@List.length_cons
def cO:=@List.pairwise_cons
def cP:=@List.getElem?_append_right
def cQ:=@List.filter_append
def cT:=@PySem.wpAny_standAt
def cU:=@List.getElem?_eq_none_iff
def cW:=@PySem.call_meets
def cX:=@Nat.le_of_lt
def cY:=@List.mem_append_left
def cZ:=@List.flatten_cons
def cb:=@PySem.Heap.SameBut.update
def cc:=@decide_eq_true_iff
def cg:=@List.all_eq_true
def cu:=@Nat.lt_trans
def cv:=@List.map_append
def cx:=@PySem.wpAny_truthy_bool
def cy:=@PySem.wpAny_setState_of
def cz:=@List.lookup_cons
def dA:=@List.mem_singleton
def dD:=@PySem.wpAny_setField
def dE:=@congrArg
def dF:=@List.mem_append
def dI:=@List.length_filter_le
def dJ:=@List.getElem?_eq_none
def dM:=@Array.getElem_eq_getD
def dO:=@PySem.wpAny_passesOwn
def dP:=@List.mem_range
def dQ:=@List.mem_iff_getElem
def dW:=@PySem.builtinLookup_eq_fast
def dX:=@Nat.lt_succ_self
def dY:=@List.getElem_mem
def dZ:=@List.drop_eq_getElem_cons
def da:=@Int.toNat_natCast
def dc:=@PySem.Heap.size_push
def de:=@PySem.Obj.isFreed_of_fields
def dg:=@PySem.codeAny_builtin
def dh:=@beq_eq_false_iff_ne
def dk:=@Array.length_toList
def dn:=@PySem.wpAny_typeOf
def dq:=@List.getElem?_replicate
def dt:=@List.filter_cons
def du:=@List.any_eq_true
def dz:=@PySem.W.cellsFrom_some
def eB:=@PySem.wpAny_of_eq
def eE:=@PySem.intKind_is
def eF:=@Option.isSome_iff_exists
def eI:=@List.nodup_cons
def eJ:=@Bool.or_eq_true
def eP:=@Sum.inl.inj
def eQ:=@PySem.F.plainAttrs_list
def eX:=@PySem.wpAny_comprehension_free
def eY:=@PyProof.Rows.boot_list
def eZ:=@List.append_assoc
def eh:=@PyProof.Rows.F.plain_set_update_loop
def ei:=@List.filterMap_cons
def fA:=@PySem.isSubtype_type
def fB:=@Nat.le_succ
def fC:=@PySem.Calls.callWith_builtin
def fJ:=@List.append_nil
def fM:=@List.getElem_of_mem
def fN:=@List.filter_sublist
def fS:=@PySem.wpAny_isInstance
def fV:=@PySem.plainId_quiet
def fc:=@PySem.wpAny_rule
def fg:=@PySem.wpAny_callSpecial?_slot
def fh:=@Array.getElem?_toList
def fz:=@List.any_cons
def gA:=@List.reverse_cons
def gB:=@List.nodup_append
def gD:=@PySem.codeAny_mono
def gE:=@PySem.F.args_tuple_add_2
def gF:=@PyProof.Rows.boot_sorted
def gG:=@List.all_cons
def gP:=@PyProof.Rows.size_push'
def gT:=@PySem.tupleKind_room_in1
def gU:=@PySem.F.entry_tuple_add
def gW:=@List.length_drop
def gX:=@List.isEmpty_iff
def gc:=@beq_iff_eq
def gf:=@List.mem_cons_self
def gg:=@Int.emod_lt_of_pos
def gh:=@PySem.Calls.evalArgs_plain
def gk:=@PySem.typeLookup_type
def gn:=@List.pairwise_iff_getElem
def gp:=@Array.getElem?_eq_getElem
def gz:=@Option.isSome_map
def iD:=@PyProof.Rows.boot_set
def iE:=@Nat.eq_of_beq_eq_true
def iF:=@List.take_append_drop
def iG:=@List.length_singleton
def iH:=@List.length_replicate
def iR:=@PySem.noFill_tuple_add
def iS:=@List.pairwise_append
def ic:=@PySem.F.slot_tuple_add
def ie:=@List.filter_eq_nil_iff
def ig:=@PySem.Calls.call_function_entry
def iu:=@PySem.wpAny_pyIter_list
def iw:=@List.find?_cons
def iy:=@Int.emod_nonneg
def iz:=@PySem.F.plain_list_iadd
def jA:=@PySem.wpAny_execs_nil
def jB:=@PySem.F.slot_dict_itemiterator_iter
def jC:=@PySem.F.slot_int_rmul
def jF:=@PySem.W.callWith_K
def jG:=@Nat.not_lt
def jH:=@Nat.lt_of_le_of_lt
def jI:=@List.mem_filterMap
def jX:=@List.findIdx?_eq_some_iff_getElem
def jZ:=@PySem.wpAny_field
def jg:=@PySem.W.plainGet_of
def jh:=@PySem.W.callWith_K0
def ji:=@PyProof.Rows.F.entry_set_update_loop
def jj:=@List.filter_eq_self
def jz:=@PySem.wpAny_updateSeq
def kC:=@List.eraseIdx_eq_take_drop_succ
def kE:=@List.eraseIdxIfInBounds_toArray
def kS:=@Nat.le_of_not_lt
def ka:=@PySem.sizeLine_eq
def kc:=@Nat.lt_trichotomy
def kd:=@Nat.lt_succ_of_lt
def ke:=@Nat.le_succ_of_le
def kf:=@List.set_set
def kh:=@List.getElem_take
def lD:=@PySem.seq_tuple_add
def lE:=@PySem.Paired.length
def lM:=@PySem.typeIs_int
def lN:=@List.of_mem_zip
def lO:=@PySem.F.args_tuple_add_2
def nj:=@PySem.wpAny_pyIter_slot
def nk:=@PySem.Value.isInt_shape
def nr:=@Option.ne_none_iff_exists'
def nt:=@PySem.Obj.cls_mapFields
def nu:=@List.length_eraseIdx_of_lt
def nv:=@List.Perm.refl
def ny:=@PySem.F.entry_tuple_add
def nz:=@Bool.false_and
def ou:=@Classical.byContradiction
def pA:=@PySem.wpAny_askSetting
def pB:=@PySem.F.slot_tuple_mul
def pC:=@PySem.F.slot_tuple_add
def qU:=@decide_eq_false_iff_not
def qV:=@PySem.F.slot_dict_items
def qW:=@PySem.F.plainAttrs_dict
def qY:=@PyProof.Rows.boot_tuple
def qZ:=@List.pairwise_mergeSort
def sC:=@PySem.codeAny_of_tree
def sD:=@Nat.mul_comm
def sE:=@List.pairwise_lt_range
def sG:=@List.map_nil
def sH:=@Int.zero_add
def sI:=@Bool.not_not
def sJ:=@Array.getElem?_eq_none
def vJ:=@PyProof.Rows.assignInOrder_cons
def vK:=@PySem.W.methodCall_KW
def vL:=@PySem.F.type_list_pop
def vM:=@PySem.F.slot_list_pop
def vN:=@PySem.F.slot_dict_pop
def vO:=@PyProof.Rows.boot_int
def vP:=@List.Pairwise.sublist
def xT:=@PySem.wpAny_runValue
def xU:=@PySem.entryFor_alias
def xV:=@Prod.mk.inj
def xW:=@List.map_id
def xX:=@List.getElem_toArray
def xY:=@List.Pairwise.filter
def xZ:=@PySem.Calls.Name_function_global
namespace L2
open PySem PySem.Spec PyProof.Rows
variable{xs vs:List V}{us:List Value}{H H':Hp}{a b f C dx:Addr}{o:HO}{u:Value}{P:Program}{w:World}{h h' base:Heap}{α:Type}{x m:Str}{e c tg:Expr}{X:Cx}{pins:List (Addr×Obj)}{Z:St}{s:Shared}{t' i j k:Nat}{ch fp:List Addr}{N ps:List Str}{M:Model}{A:Around}{E Q:Value->Shared->Prop}{v:V}{t:TA}{ta tb te:TE}{pos pos' p:Pos}{K:PySem.W.Frag}{es:List Expr}{op:CmpOp}{body:List Stmt}{r:R2}{fd:FuncData}{CX:mL}{sp:Sp}
noncomputable abbrev Key:=Sum Int Str
def Y4:Key->Value->Bool
 |.inl k,v=>Value.isInt k v
 |.inr x,v=>Value.isStrOf x v
def QV(w:World):Key->Int
 |.inl k=>hashInt k
 |.inr x=>hashStr w x
theorem n9:∀{k:Key} {v:Value},Y4 k v=true->(∃i t,k=Sum.inl i/\v=Value.int i t)\/(∃x t,k=Sum.inr x/\v=Value.str x t)
 |.inl i,v,h=>by
  obtain⟨t,e⟩:=nk (k:=i) (v:=v) h;exact .inl ⟨i,t,rfl,e⟩
 |.inr x,v,h=>by
  obtain⟨t,e⟩:=Value.isStrOf_shape (x:=x) (v:=v) h;exact .inr ⟨x,t,rfl,e⟩
theorem a28(i:Int)(t:Tok):Y4 (.inl i) (.int i t)=true:=by simp[Y4,Value.isInt]
theorem a27(x:Str)(t:Tok):Y4 (.inr x) (.str x t)=true:=by simp[Y4,Value.isStrOf]
theorem Vd(a b:Int):decide ((Sum.inl a:Key)=Sum.inl b)=(a==b):=by
 by_cases e:a=b
 ·subst e;simp
 ·have h:¬(Sum.inl a:Key)=Sum.inl b:=λq=>e (eP q);rw[ax h];exact(dh.mpr e).symm
theorem Vg(a b:Str):decide ((Sum.inr a:Key)=Sum.inr b)=decide (a=b):=by
 by_cases e:a=b
 ·subst e;simp
 ·have h:¬(Sum.inr a:Key)=Sum.inr b:=λq=>e (Sum.inr.inj q);rw[ax h,ax e]
theorem Ve(a:Int)(b:Str):decide ((Sum.inl a:Key)=Sum.inr b)=false:=ax (λq=>nomatch q)
theorem Vf(a:Str)(b:Int):decide ((Sum.inr a:Key)=Sum.inl b)=false:=ax (λq=>nomatch q)
def i8(prog:Program)(w:World):PySem.KeyKind prog w Key where
 is:=Y4
 hash:=QV w
 inj:=λv a b ha hb=>by
  rcases n9 ha with⟨i,t,rfl,rfl⟩|⟨x,t,rfl,rfl⟩
  ·rcases n9 hb with⟨j,u,rfl,e⟩|⟨y,u,rfl,e⟩
   ·injection e with e1 _;rw[e1]
   ·exact nomatch e
  ·rcases n9 hb with⟨j,u,rfl,e⟩|⟨y,u,rfl,e⟩
   ·exact nomatch e
   ·injection e with e1 _;rw[e1]
 byValue:=λk v h=>by
  rcases n9 h with⟨i,t,rfl,rfl⟩|⟨x,t,rfl,rfl⟩<;>rfl
 pyHash:=λhv h=>by
  rcases n9 hv with⟨i,t,rfl,rfl⟩|⟨x,t,rfl,rfl⟩
  ·exact wpAny_pyHash_int h
  ·exact wpAny_pyHash_str h
 eqBool:=λhu hv h=>by
  rcases n9 hu with⟨i,t,rfl,rfl⟩|⟨x,t,rfl,rfl⟩
  ·rcases n9 hv with⟨j,u,rfl,rfl⟩|⟨y,u,rfl,rfl⟩
   ·rw[Vd] at h;exact wpAny_eqBool_int h
   ·rw[Ve] at h;exact SeqAt.EqAt.int_str i t y u _ _ _ _ h
  ·rcases n9 hv with⟨j,u,rfl,rfl⟩|⟨y,u,rfl,rfl⟩
   ·rw[Vf] at h;exact SeqAt.EqAt.str_int x t j u _ _ _ _ h
   ·rw[Vg] at h;exact wpAny_eqBool_str h
 «strs»:=λk x t v h=>by
  rcases n9 h with⟨i,u,rfl,e⟩|⟨y,u,rfl,e⟩
  ·exact nomatch e
  ·injection e with e1 _;subst e1;cases v<;>rfl
theorem GB(prog:Program)(w:World)(k:Key)(v:Value):(i8 prog w).is k v=Y4 k v:=rfl
theorem YD(prog:Program)(w:World)(i:Int)(t:Tok):(i8 prog w).is (.inl i) (.int i t)=true:=a28 i t
theorem YE(prog:Program)(w:World)(x:Str)(t:Tok):(i8 prog w).is (.inr x) (.str x t)=true:=a27 x t
set_option genInjectivity true in
inductive V where
 |bf|bl (b:Bool)|int (i:Int)|str (x:Str)|kM (b:Array UInt8)|qj (b:UInt64)|ref (a:Addr)|ty (n:String)
 deriving DecidableEq
def RelV:V->Value->Prop
 |.bf,u=>u=Value.none
 |.bl b,u=>u=Value.bool b
 |.int i,u=>∃t,u=Value.int i t
 |.str x,u=>∃t,u=Value.str x t
 |.kM b,u=>∃t,u=Value.bytes b t
 |.qj b,u=>∃t,u=Value.float b t
 |.ref a,u=>u=Value.ref a
 |.ty n,u=>u=Value.type n
noncomputable abbrev Vals:List V->List Value->Prop:=Paired RelV
theorem Vals.length{xs:List V}{us:List Value}(r:Vals xs us):xs.length=us.length:=lE r
theorem Vals.get:∀{xs:List V} {us:List Value} {i:Nat} {x:V},Vals xs us->xs[i]?=some x->∃u,us[i]?=some u/\RelV x u
 |_,_,_,_,.nil,e=>by simp at e
 |_,_,0,_,.cons r _,e=>by simp at e;subst e;exact⟨_,rfl,r⟩
 |_,_,i+1,x,.cons _ t,e=>by
  obtain⟨u,h1,h2⟩:=Vals.get (i:=i) (x:=x) t (by simpa using e);exact⟨u,by simpa using h1,h2⟩
theorem Vals.set{x:V}{u:Value}(r:RelV x u):∀{xs:List V} {us:List Value} (i:Nat),Vals xs us->Vals (xs.set i x) (us.set i u)
 |_,_,_,.nil=>.nil
 |_,_,0,.cons _ t=>.cons r t
 |_,_,i+1,.cons q t=>.cons q (Vals.set r i t)
theorem Vals.append{ys:List V}{ws:List Value}(h:Vals xs us)(s:Vals ys ws):Vals (xs++ys) (us++ws):=by
 induction h with
 |nil=>exact s
 |cons r t ih=>exact .cons r ih
theorem Vals.take:∀{xs:List V} {us:List Value} (n:Nat),Vals xs us->Vals (xs.take n) (us.take n)
 |_,_,0,_=>.nil
 |_,_,_+1,.nil=>.nil
 |_,_,n+1,.cons r t=>.cons r (Vals.take n t)
theorem Vals.drop:∀{xs:List V} {us:List Value} (n:Nat),Vals xs us->Vals (xs.drop n) (us.drop n)
 |_,_,0,r=>r
 |_,_,_+1,.nil=>.nil
 |_,_,n+1,.cons _ t=>Vals.drop n t
def E1:Option V->Option Value->Prop
 |some v,some u=>RelV v u
 |none,none=>True
 |_,_=>False
def KV{κ:Type}:List (κ×V)->List (κ×Value)->Prop:=Paired λ(p:κ×V) (q:κ×Value)=>p.1=q.1/\RelV p.2 q.2
def kV:Key->V
 |.inl i=>.int i
 |.inr x=>.str x
inductive HO where
 |lst (xs:List V)
 |tup (xs:List V)
 |dK (kvs:List (Key×V))|dT (kvs:List (List Key×V))
 |set (S:Int->Bool) (n:Nat)
 |ins (C dx:Addr) (fs:List (Str×V))
 |own (x:Addr)
 |xd (fs:List (Str×V))
 |met (f x:Addr)
 |lG (lo hi:Int)
 |jt (o:Obj) (u:HO)
 |oA (ps:Array Value)
 |ext (φ:Heap->Prop)
noncomputable abbrev Hp:=Addr->Option HO
def upd(H:Hp)(a:Addr)(o:HO):Hp:=λb=>if b=a then some o else H b
theorem j6:upd H a o a=some o:=by unfold upd;rw[aG rfl]
theorem d0(h:b≠a):upd H a o b=H b:=by unfold upd;rw[az h]
theorem Tu{u:HO}(h:H a=some o)(h':H b=some u)(d:o≠u):a≠b:=by
 intro e;subst e;rw[h] at h';exact d (aF h')
theorem i0(h:H a=some o)(h':H b=none):a≠b:=by
 intro e;subst e;rw[h] at h';cases h'
def M5(h:Heap)(a:Addr)(items:Array Value):Prop:=∃o,h.get? a=some o/\o.cls=.type "tuple"/\(∃n,o.data=.seq items n)/\o.dict=none
theorem M5.tup{h:Heap}{a:Addr}{items:Array Value}(x:M5 h a items):IsTup h a items:=let ⟨o,e,c,d,_⟩:=x;⟨o,e,c,d⟩
theorem M5.new(h:Heap)(items:Array Value):M5 (h.push { cls:=.type "tuple",data:=.seq items }) h.objs.size items:=⟨_,aw _ rfl,rfl,⟨_,rfl⟩,rfl⟩
section
variable(P:Program)(w:World)
def m4(H:Hp)(h:Heap)(a:Addr):HO->Prop
 |.lst xs=>xs.length<=sizeLine/\∃(aO:List Value) (n:Nat),Vals xs aO/\h.get? a=some { cls:=.type "list",data:=.seq aO.toArray n }
 |.tup xs=>xs.length<=sizeLine/\∃aO:List Value,Vals xs aO/\M5 h a aO.toArray
 |.dK kvs=>kvs.length<=sizeLine/\(a==sysModules)=false/\∃vs,KV kvs vs/\h.DictOf (i8 P w) a vs
 |.dT kvs=>kvs.length<=sizeLine/\(a==sysModules)=false/\∃xs:List (List Key×Addr×Value),
   Paired (λ(p:List Key×V) (q:List Key×Addr×Value)=>p.1=q.1/\H q.2.1=some (.tup (p.1.map kV))/\RelV p.2 q.2.2) kvs xs /\
   ∃o es ep,h.get? a=some o/\o.ExactDict/\o.data=.dict es ep/\es.toList=xs.map (entryOfKey (tupleKind (i8 P w)))/\(xs.map (·.1)).Nodup
 |.set S n=>h.SetOf (intKind P w) a S n
 |.ins C dx fs=>H dx=some (.own a)/\fs.length<=1000/\dx≠a/\h.get? a=some (PySem.W.instObj C dx) /\
   ∃mA,h.Ns1 dx mA/\(∀f,E1 (fs.lookup f) (mA f))/\PySem.Within mA (fs.map (·.1))
 |.own _=>∃o,h.get? a=some o
 |.xd fs=>∃mA,h.Ns1 a mA/\∀f,E1 (fs.lookup f) (mA f)
 |.lG lo hi=>∃t u v,h.get? a=some { cls:=.type "range",data:=.fields #[.int lo t,.int hi u,.int 1 v] }
 |.jt o u=>h.get? a=some o/\m4 H h a u
 |.oA ps=>h.get? a=some { cls:=.none,data:=.fields ps }
 |.met f x=>h.get? a=some (PySem.W.methodObj (.ref f) (.ref x))
 |.ext φ=>φ h/\(∃o,h.get? a=some o)/\∀h1 h2:Heap,φ h1->(∀o,h1.get? a=some o->h2.get? a=some o)->φ h2
def fR(H:Hp)(h:Heap):Prop:=∀a o,H a=some o->m4 P w H h a o
end
theorem m4.lt(x:m4 P w H h a o):a<h.objs.size:=by
 cases o with
 |lst xs=>obtain⟨_,_,_,_,e⟩:=x;exact av e
 |tup xs=>obtain⟨_,_,_,p⟩:=x;exact p.tup.lt
 |dK kvs=>obtain⟨_,_,_,_,o,_,_,e,_⟩:=x;exact av e
 |dT kvs=>obtain⟨_,_,_,_,o,_,_,e,_⟩:=x;exact av e
 |set S n=>obtain⟨o,_,_,_,e,_⟩:=x;exact av e
 |ins C dx fs=>obtain⟨_,_,_,e,_⟩:=x;exact av e
 |own y=>obtain⟨_,e⟩:=x;exact av e
 |xd fs=>obtain⟨_,⟨_,_,_,e,_⟩,_⟩:=x;exact av e
 |lG lo hi=>obtain⟨_,_,_,e⟩:=x;exact av e
 |jt ob u=>obtain⟨e,_⟩:=x;exact av e
 |oA ps=>exact av (show h.get? a=some _ from x)
 |met f y=>exact av (show h.get? a=some _ from x)
 |ext φ=>obtain⟨_,⟨_,e⟩,_⟩:=x;exact av e
theorem Paired.FG{β:Type}{F G:α->β->Prop}{tj:List α}{tf:List β}(h:Paired F tj tf)(f:∀a b,F a b->G a b):Paired G tj tf:=by
 induction h with
 |nil=>exact .nil
 |cons r t ih=>exact .cons (f _ _ r) ih
theorem m4.U6(x:m4 P w H h a o)(k:∀b u,(b=a\/H b=some (.own a))->h.get? b=some u->h'.get? b=some u)(ho:∀b,H b=some (.own a)->H' b=some (.own a))(ht:∀b xs,H b=some (.tup xs)->H' b=some (.tup xs)):m4 P w H' h' a o:=by
 induction o with
 |lst xs=>obtain⟨z,aO,n,r,e⟩:=x;exact⟨z,aO,n,r,k _ _ (.inl rfl) e⟩
 |tup xs=>obtain⟨z,aO,r,ob,e,c⟩:=x;exact⟨z,aO,r,ob,k _ _ (.inl rfl) e,c⟩
 |dK kvs=>obtain⟨z,y,vs,r,ob,es,ep,e,c⟩:=x;exact⟨z,y,vs,r,ob,es,ep,k _ _ (.inl rfl) e,c⟩
 |dT kvs =>
  obtain⟨z,y,xs,r,ob,es,ep,e,c⟩:=x;exact⟨z,y,xs,Paired.FG r λp q z=>⟨z.1,ht _ _ z.2.1,z.2.2⟩,ob,es,ep,k _ _ (.inl rfl) e,c⟩
 |set S n=>obtain⟨ob,es,ep,t,e,c⟩:=x;exact⟨ob,es,ep,t,k _ _ (.inl rfl) e,c⟩
 |ins C dx fs =>
  obtain⟨d,z,ne,e,mA,⟨od,es,ep,e2,c⟩,r⟩:=x;exact⟨ho _ d,z,ne,k _ _ (.inl rfl) e,mA,⟨od,es,ep,k _ _ (.inr d) e2,c⟩,r⟩
 |own y=>obtain⟨ob,e⟩:=x;exact⟨ob,k _ _ (.inl rfl) e⟩
 |xd fs=>obtain⟨mA,⟨od,es,ep,e,c⟩,r⟩:=x;exact⟨mA,⟨od,es,ep,k _ _ (.inl rfl) e,c⟩,r⟩
 |lG lo hi=>obtain⟨t,u,v,e⟩:=x;exact⟨t,u,v,k _ _ (.inl rfl) e⟩
 |jt ob u ih=>obtain⟨e,q⟩:=x;exact⟨k _ _ (.inl rfl) e,ih q⟩
 |oA ps =>
  have e:h.get? a=some { cls:=.none,data:=.fields ps }:=x;show h'.get? a=some { cls:=.none,data:=.fields ps };exact k a _ (.inl rfl) e
 |met f y =>
  have e:h.get? a=some (PySem.W.methodObj (.ref f) (.ref y)):=x;show h'.get? a=some (PySem.W.methodObj (.ref f) (.ref y));exact k a _ (.inl rfl) e
 |ext φ=>obtain⟨p,⟨o,e⟩,st⟩:=x;exact⟨st _ _ p λo q=>k _ _ (.inl rfl) q,⟨o,k _ _ (.inl rfl) e⟩,st⟩
theorem fR.lt(x:fR P w H h)(e:H a=some o):a<h.objs.size:=(x a o e).lt
theorem fR.fresh(x:fR P w H h)(e:h.objs.size<=a):H a=none:=by
 cases q:H a with
 |none=>rfl
 |some u=>exact absurd (ak (x.lt q) e) (aX _)
theorem fR.kept(x:fR P w H h)(k:∀b u,h.get? b=some u->h'.get? b=some u):fR P w H h':=λa o e =>
 (x a o e).U6 (λb u _ q=>k b u q) (λ_ q=>q) λ_ _ q=>q
theorem fR.laid(x:fR P w H h)(k:∀b u,h.get? b=some u->h'.get? b=some u)(hp:h.objs.size<=a)(new:m4 P w (upd H a o) h' a o):fR P w (upd H a o) h':=λb u e=>by
 have hn:=x.fresh hp;by_cases hb:b=a
 ·subst hb;rw[j6] at e;cases e;exact new
 ·rw[d0 hb] at e;exact(x b u e).U6 (λc v _ q=>k c v q) (λc q=>by rw[d0 (i0 q hn)];exact q) λc xs q=>by rw[d0 (i0 q hn)];exact q
def Rd(H:Hp)(a:Addr)(u:HO):Prop:=H a=some u\/∃o,H a=some (.jt o u)
theorem Rd.ok{u:HO}(r:Rd H a u)(x:fR P w H h):m4 P w H h a u:=by
 rcases r with r|⟨o,r⟩
 ·exact x a u r
 ·obtain⟨_,q⟩:=x a _ r;exact q
def vE:Option HO->Prop
 |some (.lst _)=>True
 |some (.dK _)=>True
 |some (.dT _)=>True
 |some (.set _ _)=>True
 |some (.ins _ _ _)=>True
 |some (.ext _)=>True
 |_=>False
section
variable{x e:Addr}{o':HO}
theorem fR.write(ok:fR P w H h)(mu:vE (H x))(he:e=x\/H e=some (.own x))(k:∀b u,b≠e->h.get? b=some u->h'.get? b=some u)(oO:∃u,h'.get? e=some u)(new:m4 P w (upd H x o') h' x o'):fR P w (upd H x o') h':=λb u q=>by
 have sV:∀c y,H c=some (.own y)->c≠x:=λc y r z=>by subst z;rw[r] at mu;exact mu
 have yt:∀c xs,H c=some (.tup xs)->c≠x:=λc xs r z=>by subst z;rw[r] at mu;exact mu
 by_cases hb:b=x
 ·subst hb;rw[j6] at q;cases q;exact new
 ·rw[d0 hb] at q;by_cases qb:b=e
  ·have q':H b=some (.own x):=by
    rcases he with z|z
    ·exact absurd (qb.trans z) hb
    ·rw[qb];exact z
   rw[q] at q';cases q';obtain⟨v,hv⟩:=oO;exact⟨v,by rw[qb];exact hv⟩
  ·refine(ok b u q).U6 (λc v hc r=>k c v ?_ r) (λc r=>by rw[d0 (sV c b r)];exact r) λc xs r=>by rw[d0 (yt c xs r)];exact r
   rcases hc with rfl|hc
   ·exact qb
   ·rintro rfl;rcases he with z|z
    ·exact sV c b hc z
    ·rw[hc] at z;cases z;exact hb rfl
end
structure Un(fs ex:List Addr)(H H':Hp)(h h':Heap):Prop where
 keep:∀b o,h.get? b=some o->H b=none->b∉fs->b∉ex->h'.get? b=some o
 slot:∀b o,h.get? b=some o->H b=none->b∈fs->b∉ex->∃sl,h'.get? b=some { o with slots:=sl }
 free:∀b o,h.get? b=some o->H b=none->b∉ex->H' b=none
 there:∀b o,h.get? b=some o->b∉ex->∃o',h'.get? b=some o'
 ij:∀b xs,H b=some (.tup xs)->H' b=some (.tup xs)
 hJ:∀b o u,H b=some (.jt o u)->H' b=some (.jt o u)
 ik:∀b ps,H b=some (.oA ps)->∃more,H' b=some (.oA (ps++more))
section
variable{fs ex:List Addr}{H1:Hp}{h1:Heap}{x e:Addr}
theorem Un.any(u:Un fs ex H H1 h h1){ob:Obj}(q:h.get? b=some ob)(n:H b=none)(hx:b∉ex):∃sl,h1.get? b=some { ob with slots:=sl }:=by
 by_cases hb:b∈fs
 ·exact u.slot b ob q n hb hx
 ·exact⟨ob.slots,u.keep b ob q n hb hx⟩
theorem Un.kept(k:∀b u,h.get? b=some u->h'.get? b=some u):Un fs ex H H h h' :=
 ⟨λb ob q _ _ _=>k b ob q,λb ob q _ _ _=>⟨ob.slots,k b ob q⟩,λ_ _ _ n _=>n,λb ob q _=>⟨ob,k b ob q⟩,λ_ _ q=>q,λ_ _ _ q=>q,λ_ ps q=>⟨#[],by rw[q];simp⟩⟩
theorem Un.refl:Un fs ex H H h h:=Un.kept λ_ _ q=>q
theorem Un.laid(k:∀b u,h.get? b=some u->h'.get? b=some u)(hp:h.objs.size<=a)(hn:H a=none):Un fs ex H (upd H a o) h h' where
 keep:=λb u q _ _ _=>k b u q
 slot:=λb u q _ _ _=>⟨u.slots,k b u q⟩
 free:=λb u q n _=>by rw[d0 (aI (ak (av q) hp))];exact n
 there:=λb u q _=>⟨u,k b u q⟩
 ij:=λb xs q=>by rw[d0 (i0 q hn)];exact q
 hJ:=λb u xs q=>by rw[d0 (i0 q hn)];exact q
 ik:=λb ps q=>⟨#[],by rw[d0 (i0 q hn),q];simp⟩
theorem Un.write(mu:vE (H x))(he:e=x\/H e=some (.own x))(k:∀b u,b≠e->h.get? b=some u->h'.get? b=some u)(oO:∃u,h'.get? e=some u):Un fs ex H (upd H x o) h h':=by
 have hx:∀b,H b=none->b≠x:=λb n z=>by subst z;rw[n] at mu;exact mu
 have hb:∀b,H b=none->b≠e:=λb n z=>by
  subst z;rcases he with r|r
  ·exact hx b n r
  ·rw[n] at r;cases r
 have hm:∀b u,H b=some u->¬vE (some u)->b≠x:=λb u q nm z=>by subst z;rw[q] at mu;exact nm mu
 refine ⟨λb u q n _ _=>k b u (hb b n) q,λb u q n _ _=>⟨u.slots,k b u (hb b n) q⟩,λb u q n _=>by rw [d0 (hx b n)];exact n,λb u q _=>?_,
  λb xs q=>by rw [d0 (hm b _ q λz=>z)];exact q,λb u xs q=>by rw [d0 (hm b _ q λz=>z)];exact q,λb ps q=>⟨#[],by rw [d0 (hm b _ q λz=>z),q];simp⟩⟩
 by_cases qb:b=e
 ·subst qb;exact oO
 ·exact⟨u,k b u qb q⟩
end
def nB(h:Heap)(H:Hp):List Addr:=(List.range h.objs.size).filter λa=>(H a).isSome
def nZ(h:Heap)(H:Hp):Heap:=PySem.W.hideAll h (nB h H)
theorem a33(h:Heap)(H:Hp):(nZ h H).objs.size=h.objs.size:=PySem.W.hideAll_size _ _
theorem PZ{o:Obj}(e:h.get? b=some o)(n:H b=none):(nZ h H).get? b=some o :=
 CS _ e λhm=>by
  have q:(H b).isSome=true:=(bE.mp hm).2;rw[n] at q;simp at q
theorem NP{o:Obj}(e:(nZ h H).get? b=some o):h.get? b=some o/\H b=none:=by
 have e':h.get? b=some o:=Jj (nB h H) e;refine⟨e',?_⟩;cases q:H b with
 |none=>rfl
 |some x =>
  have hm:b∈nB h H:=bE.mpr ⟨dP.mpr (av e'),by simp[q]⟩;have z:(nZ h H).get? b=none:=PySem.W.hideAll_none (nB h H) hm;rw[z] at e;cases e
structure Mod(K:PySem.W.Frag)(mg:Str->Option Value)(base:Heap):Prop where
 mh:K.In base
 glob:base.Ns mainGlobals mg
 blt:∃mb,base.Ns builtinsNs mb/\∀x:Str,x≠"__name__"->mb x=bootBuiltins x
 nolimit:base.NoLimit
structure Cx where
 prog:Program
 w:World
 K:PySem.W.Frag
 mg:Str->Option Value
 base:Heap
 A:Around
 N:List Str
 df:Shared
 iZ:Hp
 env:Env
 outer:List Env
 stack:List Env
 ex:List Addr
 fn:Str->Bool
 calm:Bool
 pn:List (Addr×Obj)
 xe:Value->Shared->Prop
def fL(l:List Env):List Addr:=l.filterMap (·.frame)
noncomputable abbrev Cx.fs(X:Cx):List Addr:=fL X.outer
def vy(sc:Scope)(x:Str):Prop:=sc.names.lookup x=some .local\/sc.names.lookup x=some .cell\/sc.names.lookup x=some .free
def Loc(sc:Scope)(x:Str):Prop:=sc.names.lookup x=some .local\/sc.names.lookup x=some .cell
def Look(env:Env)(h:Heap)(m:Str->Option Value)(x:Str)(u:Value):Prop :=
 (env.kindOf x=some .local/\m x=some u)\/((env.kindOf x=some .cell\/env.kindOf x=some .free)/\∃c,env.cells.lookup x=some c/\h.IsCell c (some u))
structure Cx.Ok(X:Cx):Prop where
 mod:Mod X.K X.mg X.base
 kind:X.env.scope.kind=.function
 glob:X.env.globals=mainGlobals
 blt:X.env.builtins=builtinsNs
 above:X.df.heap.objs.size<=X.env.locals
 inj:∀x y c,X.env.cells.lookup x=some c->X.env.cells.lookup y=some c->x=y
 has:∀x,(X.env.kindOf x=some .cell\/X.env.kindOf x=some .free)->∃c,X.env.cells.lookup x=some c
 fQ:∀x c,X.fn x=true->X.env.cells.lookup x=some c->X.df.heap.objs.size<=c
 hd:X.calm=true->X.A.handled=none
 frames:X.A.frames=some X.stack
 pH:X.stack=X.outer\/(X.stack=X.env::X.outer/\X.env.frame=some X.env.locals)
 uy:∀b∈X.ex,b≠X.env.locals/\∀x c,X.env.cells.lookup x=some c->c≠b
 bs:∀b o,X.base.get? b=some o->X.df.heap.get? b=some o/\X.iZ b=none
 mJ:X.base.objs.size<=X.df.heap.objs.size
 jN:∀b o,X.base.get? b=some o->b∉X.ex
 kA:∀b∈X.ex,b∉X.fs
 M8:X.df.heap.FunFrames X.base X.outer
 mX:∀b∈X.fs,X.iZ b=none
structure Inv(X:Cx)(pins:List (Addr×Obj))(Z:List (Option V))(H:Hp)(s:Shared):Prop where
 ok:X.Ok
 os:s.os=X.df.os
 bare:AllBare s.gens
 base:Un X.fs X.ex X.iZ H X.df.heap s.heap
 loc:∃m,s.heap.Ns X.env.locals m/\∀(i:Nat) (x:Str) (v:V),X.N[i]?=some x->Z[i]?=some (some v)->vy X.env.scope x->∃u,RelV v u/\Look X.env s.heap m x u
 cell:∀x c,X.env.cells.lookup x=some c->∃v,s.heap.IsCell c v
 free:H X.env.locals=none
 et:∀x c,X.env.cells.lookup x=some c->H c=none
 pin:∀p∈X.pn++pins,s.heap.get? p.1=some p.2/\H p.1=none/\p.1≠X.env.locals/\p.1∉X.fs/\∀v,p.2.data≠.cell v
 bw:fR X.prog X.w H s.heap
 len:Z.length=X.N.length
section
variable{Z:List (Option V)}
theorem Cx.Ok.Rk(ok:X.Ok){o:Obj}(e:X.base.get? b=some o):b∉X.fs:=λhb=>by
 have:=(ok.M8.mem hb).1;rw[e] at this;cases this
theorem Inv.bs(I:Inv X pins Z H s):∀b o,X.base.get? b=some o->s.heap.get? b=some o/\H b=none:=λb o e =>
 ⟨I.base.keep b o (I.ok.bs b o e).1 (I.ok.bs b o e).2 (I.ok.Rk e) (I.ok.jN b o e),I.base.free b o (I.ok.bs b o e).1 (I.ok.bs b o e).2 (I.ok.jN b o e)⟩
theorem Inv.bk(I:Inv X pins Z H s):∀b o,X.base.get? b=some o->s.heap.get? b=some o:=λb o e=>(I.bs b o e).1
theorem Inv.mod(I:Inv X pins Z H s):Mod X.K X.mg X.base:=I.ok.mod
theorem Inv.fU(I:Inv X pins Z H s):X.K.In s.heap:=I.ok.mod.mh.keeps I.bk
theorem Inv.lt(I:Inv X pins Z H s):X.env.locals<s.heap.objs.size:=let ⟨_,hn,_⟩:=I.loc;hn.lt
theorem Inv.sz(I:Inv X pins Z H s):X.df.heap.objs.size<=s.heap.objs.size:=aJ I.ok.above (cX I.lt)
theorem Inv.qD(I:Inv X pins Z H s)(h:s.heap.objs.size<=a):a∉X.fs:=λhb=>by
 obtain⟨_,o,ho,_⟩:=I.ok.M8.mem hb;exact absurd (ak (av ho) (aJ I.sz h)) (aX _)
theorem Inv.qp(I:Inv X pins Z H s):∀x c,X.env.cells.lookup x=some c->c≠X.env.locals:=λx c e z=>by
 obtain⟨v,o,ho,hd⟩:=I.cell x c e;obtain⟨m,⟨o',es,ep,mr,wg,_⟩,_⟩:=I.loc;rw[z,mr] at ho;cases ho;rw[wg] at hd;cases hd
theorem Inv.M8(I:Inv X pins Z H s):s.heap.FunFrames X.base X.outer:=by
 have all:∀(l:List Env),(∀b∈fL l,b∈X.fs)->X.df.heap.FunFrames X.base l->s.heap.FunFrames X.base l:=by
  intro l
  induction l with
  |nil=>intro _ _;trivial
  |cons env r ih =>
   intro hs hl;obtain⟨hk,⟨L,o,hf,hn,ho,hd⟩,hr⟩:=hl;have hL:L∈X.fs:=hs L (by unfold fL;rw[ei,hf];exact gf);obtain⟨sl,e⟩:=I.base.slot L o ho (I.ok.mX L hL) hL λz=>I.ok.kA L z hL;exact⟨hk,⟨L,_,hf,hn,e,hd⟩,ih (λb hb=>hs b (by unfold fL;rw[ei,hf];exact bQ _ hb)) hr⟩
 exact all X.outer (λ_ hb=>hb) I.ok.M8
theorem Inv.stack(I:Inv X pins Z H s):s.heap.FunFrames X.base X.stack:=by
 rcases I.ok.pH with e|⟨e,hf⟩
 ·rw[e];exact I.M8
 ·rw[e];obtain⟨m,hn,_⟩:=I.loc;refine .cons (by rw[I.ok.kind];decide) hf hn ?_ I.M8;exact Heap.get?_none_of_le (aJ I.ok.mJ I.ok.above)
theorem Inv.J9(I:Inv X pins Z H s):∀b∈fL X.stack,b∈X.env.locals::X.fs:=λb hb=>by
 rcases I.ok.pH with e|⟨e,hf⟩
 ·rw[e] at hb;exact bQ _ hb
 ·rw[e] at hb;unfold fL at hb;rw[ei,hf] at hb;exact hb
theorem Inv.xg(I:Inv X pins Z H s):∀b∈fL X.stack,H b=none:=λb hb=>by
 rcases ay.mp (I.J9 b hb) with e|hb
 ·rw[e];exact I.free
 ·obtain⟨_,o,ho,_⟩:=I.ok.M8.mem hb;exact I.base.free b o ho (I.ok.mX b hb) λz=>I.ok.kA b z hb
theorem Inv.step{g':Array GenState}{t':Nat}{d':Drawn}{ch:List Addr}(I:Inv X pins Z H s)(mU:∀b∈ch,(b∈X.ex\/X.df.heap.objs.size<=b)/\b≠X.env.locals/\(∀x c,X.env.cells.lookup x=some c->c≠b)/\∀p∈X.pn++pins,p.1≠b)(keep:∀b o,b≠X.env.locals->b∉X.fs->b∉ch->s.heap.get? b=some o->H b=none->h'.get? b=some o)(slot:∀b o,b≠X.env.locals->b∈X.fs->b∉ch->s.heap.get? b=some o->H b=none->∃sl,h'.get? b=some { o with slots:=sl })(free:∀b o,b∉ch->s.heap.get? b=some o->H b=none->H' b=none)(there:∀b o,b∉ch->s.heap.get? b=some o->∃o',h'.get? b=some o')(ij:∀b xs,H b=some (.tup xs)->H' b=some (.tup xs))(hJ:∀b o u,H b=some (.jt o u)->H' b=some (.jt o u))(ik:∀b ps,H b=some (.oA ps)->∃more,H' b=some (.oA (ps++more)))(ns:∀m,s.heap.Ns X.env.locals m->h'.Ns X.env.locals m)(bw:fR X.prog X.w H' h')(hg:AllBare g') :
  Inv X pins Z H' { s with heap:=h',gens:=g',drawn:=d',toks:=t' }:=by
 have Dx:∀b o,X.df.heap.get? b=some o->b≠X.env.locals:=λb o e=>aI (ak (av e) I.ok.above);have mP:∀b o,X.df.heap.get? b=some o->b∉X.ex->b∉ch:=λb o e hx hb=>by
  rcases(mU b hb).1 with z|z
  ·exact hx z
  ·exact absurd (ak (av e) z) (aX _)
 have cellK:∀x c,X.env.cells.lookup x=some c->∀v,s.heap.IsCell c v->h'.IsCell c v:=λx c e v aT=>by
  obtain⟨o,ho,hd⟩:=aT;have sZ:c∉ch:=λz=>(mU c z).2.2.1 x c e rfl;by_cases hc:c∈X.fs
  ·obtain⟨sl,q⟩:=slot c o (I.qp x c e) hc sZ ho (I.et x c e);exact⟨_,q,hd⟩
  ·exact⟨o,keep c o (I.qp x c e) hc sZ ho (I.et x c e),hd⟩
 refine⟨I.ok,I.os,hg,⟨λb o e n hb hx=>?_,λb o e n hb hx=>?_,λb o e n hx=>?_,λb o e hx=>?_,λb xs e=>ij b xs (I.base.ij b xs e),λb o xs e=>hJ b o xs (I.base.hJ b o xs e),λb ps e=>?_⟩,?_,λx c e=>?_,?_,λx c e=>?_,λp hp=>?_,bw,I.len⟩
 ·exact keep b o (Dx b o e) hb (mP b o e hx) (I.base.keep b o e n hb hx) (I.base.free b o e n hx)
 ·obtain⟨sl,e1⟩:=I.base.slot b o e n hb hx;obtain⟨JA,e2⟩:=slot b _ (Dx b o e) hb (mP b o e hx) e1 (I.base.free b o e n hx);exact⟨JA,e2⟩
 ·obtain⟨o',e1⟩:=I.base.there b o e hx;exact free b o' (mP b o e hx) e1 (I.base.free b o e n hx)
 ·obtain⟨o',e1⟩:=I.base.there b o e hx;exact there b o' (mP b o e hx) e1
 ·obtain⟨m1,e1⟩:=I.base.ik b ps e;obtain⟨m2,e2⟩:=ik b _ e1;exact⟨m1++m2,by rw[e2,Jl]⟩
 ·obtain⟨m,hn,hl⟩:=I.loc;refine⟨m,ns m hn,λi x v e1 e2 e3=>?_⟩;obtain⟨u,r,l⟩:=hl i x v e1 e2 e3;refine⟨u,r,?_⟩;rcases l with l|⟨k,c,e,z⟩
  ·exact .inl l
  ·exact .inr ⟨k,c,e,cellK x c e _ z⟩
 ·obtain⟨v,z⟩:=I.cell x c e;exact⟨v,cellK x c e v z⟩
 ·obtain⟨m,⟨o,_,_,ho,_⟩,_⟩:=I.loc;exact free _ o (λz=>(mU _ z).2.1 rfl) ho I.free
 ·obtain⟨v,o,ho,hd⟩:=I.cell x c e;exact free c o (λz=>(mU c z).2.2.1 x c e rfl) ho (I.et x c e)
 ·obtain⟨e,n,ne,nf,d⟩:=I.pin p hp;have sZ:p.1∉ch:=λz=>(mU p.1 z).2.2.2 p hp rfl;exact⟨keep p.1 p.2 ne nf sZ e n,free p.1 p.2 sZ e n,ne,nf,d⟩
theorem Inv.un{t':Nat}(I:Inv X pins Z H s)(u:Un X.fs [] H H' s.heap h')(bw:fR X.prog X.w H' h'):Inv X pins Z H' { s with heap:=h',toks:=t' }:=by
 obtain⟨m,⟨o,es,ep,ho,r⟩,_⟩:=id I.loc;obtain⟨sl,hL⟩:=u.any ho I.free (by simp);exact I.step (g':=s.gens) (d':=s.drawn) (ch:=[]) (λ_ z=>nomatch z) (λb o _ hb _ e n=>u.keep b o e n hb (by simp)) (λb o _ hb _ e n=>u.slot b o e n hb (by simp)) (λb o _ e n=>u.free b o e n (by simp)) (λb o _ e=>u.there b o e (by simp)) u.ij u.hJ u.ik (λm' hm=>by
  obtain⟨o',wx,Ac,mr,r'⟩:=hm;rw[ho] at mr;cases mr;exact ⟨_,wx,Ac,hL,r'⟩) bw I.bare
theorem Inv.call{g':Array GenState}{t':Nat}{d':Drawn}(I:Inv X pins Z H s)(u:Un (fL X.stack) ch H H' s.heap h')(bw:fR X.prog X.w H' h')(hg:AllBare g')(mU:∀b∈ch,(b∈X.ex\/X.df.heap.objs.size<=b)/\b≠X.env.locals/\(∀x c,X.env.cells.lookup x=some c->c≠b)/\∀p∈X.pn++pins,p.1≠b) :
  Inv X pins Z H' { s with heap:=h',gens:=g',drawn:=d',toks:=t' }:=by
 obtain⟨m,⟨o,es,ep,ho,r⟩,_⟩:=id I.loc;obtain⟨sl,hL⟩:=u.any ho I.free λz=>(mU _ z).2.1 rfl;exact I.step (ch:=ch) mU (λb o hL hb hc e n=>u.keep b o e n (λz=>(ay.mp (I.J9 b z)).elim hL hb) hc) (λb o _ _ hc e n=>u.any e n hc) (λb o hc e n=>u.free b o e n hc) (λb o hc e=>u.there b o e hc) u.ij u.hJ u.ik (λm' hm=>by
  obtain⟨o',wx,Ac,mr,r'⟩:=hm;rw[ho] at mr;cases mr;exact ⟨_,wx,Ac,hL,r'⟩) bw hg
theorem Inv.turned{t':Nat}{it:Addr}(I:Inv X pins Z H s)(k:∀b o,b≠it->s.heap.get? b=some o->h'.get? b=some o)(hn:H it=none)(hL:it≠X.env.locals)(h1:it∈X.ex\/X.df.heap.objs.size<=it)(h2:∀x c,X.env.cells.lookup x=some c->c≠it)(h3:∀p∈X.pn++pins,p.1≠it):Inv X pins Z H { s with heap:=h',toks:=t' }:=by
 have Dw:∀b u,H b=some u->b≠it:=λb u e z=>by rw[z,hn] at e;cases e
 refine I.step (g':=s.gens) (d':=s.drawn) (ch:=[it]) (λb hb=>?_) (λb o _ _ hc e _=>k b o (λz=>hc (by simp[z])) e) (λb o _ _ hc e _=>⟨o.slots,k b o (λz=>hc (by simp[z])) e⟩) (λ_ _ _ _ n=>n)
  (λb o hc e=>⟨o,k b o (λz=>hc (by simp[z])) e⟩) (λ_ _ e=>e) (λ_ _ _ e=>e) (λb ps e=>⟨#[],by rw[e];simp⟩) (λm hm=>?_) (λb u e=>?_) I.bare
 ·have e:b=it:=by simpa using hb
  subst e;exact⟨h1,hL,h2,h3⟩
 ·obtain⟨o,es,ep,ho,r⟩:=hm;exact⟨o,es,ep,k _ o (aZ hL) ho,r⟩
 ·refine(I.bw b u e).U6 (λc v hc q=>k c v ?_ q) (λ_ q=>q) λ_ _ q=>q;rcases hc with z|z
  ·rw[z];exact Dw b u e
  ·exact Dw c _ z
theorem Inv.tok(I:Inv X pins Z H s)(t:Nat):Inv X pins Z H { s with toks:=t }:=I.un (h':=s.heap) (t':=t) Un.refl I.bw
theorem Inv.kept{t':Nat}(I:Inv X pins Z H s)(k:∀b u,s.heap.get? b=some u->h'.get? b=some u):Inv X pins Z H { s with heap:=h',toks:=t' }:=I.un (Un.kept k) (I.bw.kept k)
theorem Inv.laid{a:Addr}{o:HO}{t':Nat}(I:Inv X pins Z H s)(k:∀b u,s.heap.get? b=some u->h'.get? b=some u)(hp:s.heap.objs.size<=a)(new:m4 X.prog X.w (upd H a o) h' a o) :
  Inv X pins Z (upd H a o) { s with heap:=h',toks:=t' }:=I.un (Un.laid k hp (I.bw.fresh hp)) (I.bw.laid k hp new)
theorem Inv.write{x e:Addr}{o:HO}{t':Nat}(I:Inv X pins Z H s)(mu:vE (H x))(he:e=x\/H e=some (.own x))(k:∀b u,b≠e->s.heap.get? b=some u->h'.get? b=some u)(oO:∃u,h'.get? e=some u)(new:m4 X.prog X.w (upd H x o) h' x o):Inv X pins Z (upd H x o) { s with heap:=h',toks:=t' }:=I.un (Un.write mu he k oO) (I.bw.write mu he k oO new)
theorem Inv.weak{bI:List (Option V)}(I:Inv X pins Z H s)(hl:bI.length=Z.length)(w:∀(i:Nat) v,bI[i]?=some (some v)->Z[i]?=some (some v)):Inv X pins bI H s :=
 ⟨I.ok,I.os,I.bare,I.base,let ⟨m,hn,tP⟩:=I.loc;⟨m,hn,λi x v e1 e2 e3=>tP i x v e1 (w i v e2) e3⟩,I.cell,I.free,I.et,I.pin,I.bw,hl.trans I.len⟩
theorem Inv.E5{iK:List (Addr×Obj)}(I:Inv X pins Z H s)(h:∀p∈iK,s.heap.get? p.1=some p.2/\H p.1=none/\p.1≠X.env.locals/\p.1∉X.fs/\∀v,p.2.data≠.cell v):Inv X iK Z H s :=
 ⟨I.ok,I.os,I.bare,I.base,I.loc,I.cell,I.free,I.et,λp hp=>(dF.mp hp).elim (λz=>I.pin p (cY _ z)) (h p),I.bw,I.len⟩
theorem Iq(hN:N.Nodup)(a:N[i]?=some x)(b:N[j]?=some x):i=j:=by
 obtain⟨h1,e1⟩:=aD.mp a;obtain⟨h2,e2⟩:=aD.mp b;exact(List.getElem_inj hN).mp (e1.trans e2.symm)
theorem Gj{Q:Unit->Shared->Prop}(I:Inv X pins Z H s)(hN:X.N.Nodup)(hi:X.N[i]?=some x)(hx:Loc X.env.scope x)(r:RelV v u)(h:∀s',Inv X pins (Z.set i (some v)) H s'->(∃a,Heap.SameBut a s.heap s'.heap/\(a=X.env.locals\/X.env.cells.lookup x=some a))->Q () s')(hf:X.fn x=true\/X.env.scope.names.lookup x=some .local:=by first|exact .inl rfl|exact .inr rfl|assumption):wpAny M A (storeName X.env x u) Q E s:=by
 obtain⟨m,hn,hl⟩:=id I.loc;have nO:(X.env.scope.kind==.class||(X.env.scope.kind==.module&&X.env.locals != X.env.globals))=false:=by rw[I.ok.kind];rfl
 have tS:i<Z.length:=by rw[I.len];exact(aD.mp hi).1
 have qp:=I.qp;have tracked:∀{a:Addr} {h':Heap},(∃o,s.heap.get? a=some o/\H a=none)->Heap.SameBut a s.heap h'->fR X.prog X.w H h':=λ{a h'} ha hs b ob e=>by
  obtain⟨_,_,mx⟩:=ha;refine(I.bw b ob e).U6 (λc w' hc q=>(hs.2 c ?_).trans q) (λ_ q=>q) λ_ _ q=>q;rintro rfl;rcases hc with rfl|hc
  ·rw[mx] at e;cases e
  ·rw[mx] at hc;cases hc
 rcases hx with hk|hk
 ·refine wpAny_storeName_local hk hn (λh' Kx hs=>?_) nO;obtain⟨oL,_,_,lb,_⟩:=id hn;refine h _ ⟨I.ok,I.os,I.bare,⟨λb o e n hb hx=>?_,λb o e n hb hx=>?_,I.base.free,λb o e hx=>?_,I.base.ij,I.base.hJ,I.base.ik⟩,⟨_,Kx,λj y v' e1 e2 e3=>?_⟩,λy c e=>?_,I.free,I.et,λp hp=>?_,tracked ⟨oL,lb,I.free⟩ hs,by simpa using I.len⟩ ⟨_,hs,.inl rfl⟩
  ·exact(hs.2 b (aI (ak (av e) I.ok.above))).trans (I.base.keep b o e n hb hx)
  ·obtain⟨sl,e1⟩:=I.base.slot b o e n hb hx;exact⟨sl,(hs.2 b (aI (ak (av e) I.ok.above))).trans e1⟩
  ·obtain⟨o',e1⟩:=I.base.there b o e hx;exact⟨o',(hs.2 b (aI (ak (av e) I.ok.above))).trans e1⟩
  ·by_cases hj:j=i
   ·subst hj;rw[hi] at e1;cases e1;rw[aY tS] at e2;cases e2;exact⟨u,r,.inl ⟨hk,by simp⟩⟩
   ·rw[aR (aZ hj)] at e2;obtain⟨u',r',q⟩:=hl j y v' e1 e2 e3;refine⟨u',r',?_⟩;rcases q with⟨k,e⟩|⟨k,c,e,z⟩
    ·refine .inl ⟨k,?_⟩;have:y≠x:=λe=>hj (Iq hN e1 (e▸hi));simp[this,e]
    ·exact .inr ⟨k,c,e,z.sameBut hs (qp y c e)⟩
  ·obtain⟨w',z⟩:=I.cell y c e;exact⟨w',z.sameBut hs (qp y c e)⟩
  ·obtain⟨e,n,ne,nf,d⟩:=I.pin p hp;exact⟨(hs.2 p.1 ne).trans e,n,ne,nf,d⟩
 ·have rD:X.fn x=true:=by
   rcases hf with z|z
   ·exact z
   ·rw[z] at hk;cases hk
  obtain⟨c,hc⟩:=I.ok.has x (.inl hk);obtain⟨w',z⟩:=I.cell x c hc;refine wpAny_storeName_cell I.ok.kind hk hc z (λh' qa hs=>?_);obtain⟨oc,yT,yS⟩:=id z;refine h { s with heap:=h' } ⟨I.ok,I.os,I.bare,⟨λb o e n hb hx=>?_,λb o e n hb hx=>?_,I.base.free,λb o e hx=>?_,I.base.ij,I.base.hJ,I.base.ik⟩,⟨m,hn.sameBut hs (aZ (qp x c hc)),λj y v' e1 e2 e3=>?_⟩,λy c' e=>?_,I.free,I.et,λp hp=>?_,tracked ⟨oc,yT,I.et x c hc⟩ hs,by simpa using I.len⟩ ⟨c,hs,.inr hc⟩
  ·exact(hs.2 b (aI (ak (av e) (I.ok.fQ x c rD hc)))).trans (I.base.keep b o e n hb hx)
  ·obtain⟨sl,e1⟩:=I.base.slot b o e n hb hx;exact⟨sl,(hs.2 b (aI (ak (av e) (I.ok.fQ x c rD hc)))).trans e1⟩
  ·obtain⟨o',e1⟩:=I.base.there b o e hx;exact⟨o',(hs.2 b (aI (ak (av e) (I.ok.fQ x c rD hc)))).trans e1⟩
  ·by_cases hj:j=i
   ·subst hj;rw[hi] at e1;cases e1;rw[aY tS] at e2;cases e2;exact⟨u,r,.inr ⟨.inl hk,c,hc,qa⟩⟩
   ·rw[aR (aZ hj)] at e2;obtain⟨u',r',q⟩:=hl j y v' e1 e2 e3;refine⟨u',r',?_⟩;rcases q with q|⟨k,c',e,z'⟩
    ·exact .inl q
    ·refine .inr ⟨k,c',e,z'.sameBut hs ?_⟩;rintro rfl;exact hj (Iq hN e1 (I.ok.inj _ _ _ e hc▸hi))
  ·by_cases rE:c'=c
   ·subst rE;exact⟨_,qa⟩
   ·obtain⟨w2,z2⟩:=I.cell y c' e;exact⟨w2,z2.sameBut hs rE⟩
  ·obtain⟨e,n,ne,nf,d⟩:=I.pin p hp;refine⟨(hs.2 p.1 ?_).trans e,n,ne,nf,d⟩;intro q;rw[q,yT] at e;have q':oc=p.2:=aF e;exact d w' (by rw[<- q'];exact yS)
theorem U5{Q:Unit->Shared->Prop}(I:Inv X pins Z H s)(hN:X.N.Nodup)(hi:X.N[i]?=some x)(hx:Loc X.env.scope x)(r:RelV v u)(h:∀s',Inv X pins (Z.set i (some v)) H s'->Q () s')(hf:X.fn x=true\/X.env.scope.names.lookup x=some .local:=by first|exact .inl rfl|exact .inr rfl|assumption):wpAny M A (storeName X.env x u) Q E s :=
 Gj I hN hi hx r (λs' I' _=>h s' I') hf
theorem Inv.BK{s':Shared}(I:Inv X pins Z H s)(ho:s'.os=s.os)(u:Un (fL X.stack) ch H H' s.heap s'.heap)(bw:fR X.prog X.w H' s'.heap)(hg:AllBare s'.gens)(mU:∀b∈ch,(b∈X.ex\/X.df.heap.objs.size<=b)/\b≠X.env.locals/\(∀x c,X.env.cells.lookup x=some c->c≠b)/\∀p∈X.pn++pins,p.1≠b):Inv X pins Z H' s':=by
 obtain⟨h',g',d',t',o'⟩:=s';have e:o'=s.os:=ho;subst e;exact I.call (g':=g') (t':=t') (d':=d') u bw hg mU
end
noncomputable abbrev XK:=Value->Option Addr->Hp->Prop
noncomputable abbrev St:=List (Option V)
noncomputable abbrev VK:=V->Hp->Prop
noncomputable abbrev TE:=St->Hp->VK->Prop
noncomputable abbrev TT:=St->Hp->(Bool->Hp->Prop)->Prop
noncomputable abbrev TA:=St->Hp->(List V->Hp->Prop)->Prop
structure Ends where
 nx:St->Hp->Prop
 rt:VK
 bk:St->Hp->Prop:=λ_ _=>False
 ct:St->Hp->Prop:=λ_ _=>False
noncomputable abbrev TS:=Ends->St->Hp->Prop
def EP(X:Cx)(pins:List (Addr×Obj))(Z:St)(Q:VK)(u:Value)(s':Shared):Prop:=∃v H',Inv X pins Z H' s'/\RelV v u/\Q v H'
def TP(X:Cx)(pins:List (Addr×Obj))(Z:St)(Q:Bool->Hp->Prop)(b:Bool)(s':Shared):Prop:=∃H',Inv X pins Z H' s'/\Q b H'
def AP(X:Cx)(pins:List (Addr×Obj))(Z:St)(Q:List V->Hp->Prop)(us:List Value)(s':Shared):Prop:=∃vs H',Inv X pins Z H' s'/\Vals vs us/\Q vs H'
def SP(X:Cx)(pins:List (Addr×Obj))(D:Ends)(f:Flow)(s':Shared):Prop :=
 match f with
 |.next=>∃bI H',Inv X pins bI H' s'/\D.nx bI H'
 |.brk=>∃bI H',Inv X pins bI H' s'/\D.bk bI H'
 |.cont=>∃bI H',Inv X pins bI H' s'/\D.ct bI H'
 |.ret u=>∃v bI H',Inv X pins bI H' s'/\RelV v u/\D.rt v H'
def PE(X:Cx)(e:Expr)(t:TE):Prop :=
 ∀(pins:List (Addr×Obj)) (s:Shared) (Z:St) (H:Hp) (Q:VK),Inv X pins Z H s->t Z H Q->wpAny (model X.prog X.w) X.A (eval e X.env) (EP X pins Z Q) X.xe s
def PT(X:Cx)(e:Expr)(t:TT):Prop :=
 ∀(pins:List (Addr×Obj)) (s:Shared) (Z:St) (H:Hp) (Q:Bool->Hp->Prop),Inv X pins Z H s->t Z H Q->wpAny (model X.prog X.w) X.A (isTrue e X.env (eval e X.env)) (TP X pins Z Q) X.xe s
def PW(X:Cx)(e:Expr)(t:TT):Prop :=
 ∀(whole:Sem Value) (pins:List (Addr×Obj)) (s:Shared) (Z:St) (H:Hp) (Q:Bool->Hp->Prop),Inv X pins Z H s->t Z H Q->wpAny (model X.prog X.w) X.A (isTrue e X.env whole) (TP X pins Z Q) X.xe s
theorem PW.pt{t:TT}(h:PW X e t):PT X e t:=h _
def PA(X:Cx)(es:List Expr)(t:TA):Prop :=
 ∀(pos:Pos) (pins:List (Addr×Obj)) (s:Shared) (Z:St) (H:Hp) (Q:List V->Hp->Prop),Inv X pins Z H s->t Z H Q->wpAny (model X.prog X.w) X.A (spliced (backTo pos (starEach es X.env))) (AP X pins Z Q) X.xe s
def PS(X:Cx)(st:Stmt)(t:TS):Prop :=
 ∀(pins:List (Addr×Obj)) (s:Shared) (Z:St) (H:Hp) (D:Ends),Inv X pins Z H s->t D Z H->wpAny (model X.prog X.w) X.A (exec st X.env) (SP X pins D) X.xe s
def iP(X:Cx)(st:List Stmt)(t:TS):Prop :=
 ∀(pins:List (Addr×Obj)) (s:Shared) (Z:St) (H:Hp) (D:Ends),Inv X pins Z H s->t D Z H->wpAny (model X.prog X.w) X.A (execs st X.env) (SP X pins D) X.xe s
theorem bZ{t:Sem α}{Q Q':α->Shared->Prop}(h:wpAny M A t Q E s)(hQ:∀a s,Q a s->Q' a s):wpAny M A t Q' E s:=aV h hQ λ_ _ x=>x
section
theorem bin{a b:Expr}(ha:PE X a ta)(hb:PE X b tb){R:V->V->Hp->Prop}(I:Inv X pins Z H s)(h:ta Z H λx H1=>tb Z H1 λy H2=>R x y H2){Q:α->Shared->Prop}{f:Value->Value->Sem α}(hf:∀v u s2 x y H2,Inv X pins Z H2 s2->RelV x v->RelV y u->R x y H2->wpAny (model X.prog X.w) X.A (f v u) Q X.xe s2) :
  wpAny (model X.prog X.w) X.A (eval a X.env) (λv bC=>wpAny (model X.prog X.w) X.A (eval b X.env) (λu fb=>wpAny (model X.prog X.w) X.A (f v u) Q X.xe fb) X.xe bC) X.xe s:=by
 refine bZ (ha pins s Z H _ I h) λv s1 aT=>?_;obtain⟨x,H1,I1,r1,q1⟩:=aT;refine bZ (hb pins s1 Z H1 _ I1 q1) λu s2 aT=>?_;obtain⟨y,H2,I2,r2,q2⟩:=aT;exact hf v u s2 x y H2 I2 r1 r2 q2
def ph(i:Nat):TE:=λZ H Q=>∃v,Z[i]?=some (some v)/\Q v H
def tC(v:V):TE:=λ_ H Q=>Q v H
theorem IY(hN:X.N[i]?=some x)(hv:vy X.env.scope x)(hd:(x==("__debug__":Str))=false:=by decide)(lx:(x==("__classdict__":Str))=false:=by decide):PE X (.Name x pos) (ph i):=by
 intro pins s Z H Q I h;obtain⟨v,e,h⟩:=h;obtain⟨m,hn,hl⟩:=I.loc;obtain⟨u,r,l⟩:=hl i x v hN e hv;have fin:EP X pins Z Q u s:=⟨v,H,I,r,h⟩
 rcases l with⟨hk,hm⟩|⟨hk,c,hc,kJ⟩
 ·exact wpAny_Name (wpAny_loadName_local I.ok.kind hk hn hm fin) hd
 ·rcases hk with hk|hk
  ·exact wpAny_Name (wpAny_loadName_cell I.ok.kind hk hc kJ fin) hd
  ·exact wpAny_Name (wpAny_loadName_free I.ok.kind hk hc kJ fin lx) hd
theorem VH{i j pos}:PE X (.Constant (.int i) j pos) (tC (.int i)):=λ_ _ _ H _ I h=>wpAny_Constant_int ⟨.int i,H,I.tok _,⟨_,rfl⟩,h⟩
theorem TJ{b j pos}:PE X (.Constant (.bool b) j pos) (tC (.bl b)):=λ_ _ _ H _ I h=>Constant_bool ⟨.bl b,H,I,rfl,h⟩
theorem VJ{j pos}:PE X (.Constant .none j pos) (tC .bf):=λ_ _ _ H _ I h=>Constant_none ⟨.bf,H,I,rfl,h⟩
theorem IX{x j pos}:PE X (.Constant (.str x) j pos) (tC (.str x)):=λ_ _ _ H _ I h=>Calls.Constant_str ⟨.str x,H,I.tok _,⟨_,rfl⟩,h⟩
def Gl(X:Cx)(x:Str):Prop:=X.env.kindOf x=some .globalImplicit
theorem P8(I:Inv X pins Z H s)(hg:Gl X x)(hm:X.mg x=some u)(h:Q u s)(hd:(x==("__debug__":Str))=false:=by decide):wpAny (model X.prog X.w) X.A (eval (.Name x pos) X.env) Q E s :=
 xZ I.ok.kind hg (Calls.loadGlobal_global (by rw[I.ok.glob];exact I.mod.glob.keeps I.bk) hm h) hd
theorem O5(I:Inv X pins Z H s)(hg:Gl X x)(hm:X.mg x=none)(hv:bootBuiltins x=some u)(h:Q u s)(hn:x≠"__name__":=by decide)(hd:(x==("__debug__":Str))=false:=by decide):wpAny (model X.prog X.w) X.A (eval (.Name x pos) X.env) Q E s:=by
 obtain⟨mb,h1,h2⟩:=I.mod.blt;exact xZ I.ok.kind hg (Calls.loadGlobal_builtin (by rw[I.ok.glob];exact I.mod.glob.keeps I.bk) hm (by rw[I.ok.blt];exact h1.keeps I.bk) ((h2 x hn).trans hv) h) hd
theorem xa(hg:Gl X x)(hm:X.mg x=some u)(r:RelV v u)(hd:(x==("__debug__":Str))=false:=by decide):PE X (.Name x pos) (tC v) :=
 λ_ _ _ H _ I h=>P8 I hg hm ⟨v,H,I,r,h⟩ hd
theorem NZ(hg:Gl X x)(hm:X.mg x=none)(hv:bootBuiltins x=some u)(r:RelV v u)(hn:x≠"__name__":=by decide)(hd:(x==("__debug__":Str))=false:=by decide):PE X (.Name x pos) (tC v) :=
 λ_ _ _ H _ I h=>O5 I hg hm hv ⟨v,H,I,r,h⟩ hn hd
variable{a b:Expr}
variable{tA vR:TT}{rest:List Expr}
def RN(t u:TT):TT:=λZ H Q=>t Z H λc H1=>if c=true then u Z H1 Q else Q false H1
def Jv(t u:TT):TT:=λZ H Q=>t Z H λc H1=>if c=true then Q true H1 else u Z H1 Q
def RV(t:TT):TT:=λZ H Q=>t Z H λc H1=>Q (!c) H1
theorem Ov(ha:PT X a tA):PW X (.BoolOp .And [a] pos) tA:=by
 intro wh pins s Z H Q I h;refine isTrue_and (bZ (ha pins s Z H Q I h) λc s1 e=>?_);cases c with
 |true=>exact isTrue_and_nil e
 |false=>exact e
theorem V'(ha:PT X a tA):PW X (.BoolOp .Or [a] pos) tA:=by
 intro wh pins s Z H Q I h;refine isTrue_or (bZ (ha pins s Z H Q I h) λc s1 e=>?_);cases c with
 |false=>exact isTrue_or_nil e
 |true=>exact e
theorem VZ(ha:PT X a tA)(hb:PW X (.BoolOp .And (b::rest) pos) vR):PW X (.BoolOp .And (a::b::rest) pos) (RN tA vR):=by
 intro wh pins s Z H Q I h;refine isTrue_and (bZ (ha pins s Z H _ I h) λc s1 ⟨H1,I1,q1⟩=>?_);cases c with
 |true=>exact hb wh pins s1 Z H1 Q I1 q1
 |false=>exact⟨H1,I1,q1⟩
theorem TV(ha:PT X a tA)(hb:PW X (.BoolOp .Or (b::rest) pos) vR):PW X (.BoolOp .Or (a::b::rest) pos) (Jv tA vR):=by
 intro wh pins s Z H Q I h;refine isTrue_or (bZ (ha pins s Z H _ I h) λc s1 ⟨H1,I1,q1⟩=>?_);cases c with
 |true=>exact⟨H1,I1,q1⟩
 |false=>exact hb wh pins s1 Z H1 Q I1 q1
theorem VY(ha:PT X a tA):PT X (.UnaryOp .Not a pos) (RV tA):=by
 intro pins s Z H Q I h;exact isTrue_not (ha pins s Z H (λc H1=>Q (!c) H1) I h)
def Um(ta tb:TE):TE:=λZ H Q=>ta Z H λx H1=>∃c,x=.bl c/\if c=true then tb Z H1 Q else Q (.bl false) H1
def RX(ta tb:TE):TE:=λZ H Q=>ta Z H λx H1=>∃c,x=.bl c/\if c=true then Q (.bl true) H1 else tb Z H1 Q
def Ur(ta:TE):TE:=λZ H Q=>ta Z H λx H1=>∃c,x=.bl c/\Q (.bl (!c)) H1
theorem VM{op}{t:TE}(h:PE X a t):PE X (.BoolOp op [a] pos) t:=λpins s Z H Q I hw=>BoolOp_one (h pins s Z H Q I hw)
theorem VE(ha:PE X a ta)(hb:PE X (.BoolOp .And (b::rest) pos) tb):PE X (.BoolOp .And (a::b::rest) pos) (Um ta tb):=by
 intro pins s Z H Q I h;refine BoolOp_and (bZ (ha pins s Z H _ I h) λv s1 aT=>?_);obtain⟨x,H1,I1,r1,q1⟩:=aT;obtain⟨c,rfl,q1⟩:=q1;cases r1;refine cx ?_;cases c with
 |true=>exact hb pins s1 Z H1 Q I1 q1
 |false=>exact⟨.bl false,H1,I1,rfl,q1⟩
theorem TN(ha:PE X a ta)(hb:PE X (.BoolOp .Or (b::rest) pos) tb):PE X (.BoolOp .Or (a::b::rest) pos) (RX ta tb):=by
 intro pins s Z H Q I h;refine BoolOp_or (bZ (ha pins s Z H _ I h) λv s1 aT=>?_);obtain⟨x,H1,I1,r1,q1⟩:=aT;obtain⟨c,rfl,q1⟩:=q1;cases r1;refine cx ?_;cases c with
 |false=>exact hb pins s1 Z H1 Q I1 q1
 |true=>exact⟨.bl true,H1,I1,rfl,q1⟩
theorem VL(ha:PE X a ta):PE X (.UnaryOp .Not a pos) (Ur ta):=by
 intro pins s Z H Q I h;refine UnaryOp_ (bZ (ha pins s Z H _ I h) λv s1 aT=>?_);obtain⟨x,H1,I1,r1,q1⟩:=aT;obtain⟨c,rfl,q1⟩:=q1;cases r1;exact not_of (cx ⟨.bl (!c),H1,I1,rfl,q1⟩)
def Jw(t:TT)(ta tb:TE):TE:=λZ H Q=>t Z H λc H1=>if c=true then ta Z H1 Q else tb Z H1 Q
theorem Qw(hc:PT X c tA)(ha:PE X a ta)(hb:PE X b tb):PE X (.IfExp c a b pos) (Jw tA ta tb):=by
 intro pins s Z H Q I h;refine wpAny_IfExp (bZ (hc pins s Z H _ I h) λd s1 ⟨H1,I1,q1⟩=>?_);cases d with
 |true=>exact ha pins s1 Z H1 Q I1 q1
 |false=>exact hb pins s1 Z H1 Q I1 q1
end
def ft(K:PySem.W.Frag)(H:Hp)(a:Addr)(xs:List V):Prop :=
 Rd H a (.lst xs) \/
  ∃(o:Obj) (aO:Array Value) (n:Nat),K.lookup a=some o/\o.cls=.type "list"/\o.dict=none/\o.data=.seq aO n/\aO.size<=sizeLine/\Vals xs aO.toList
def gS(K:PySem.W.Frag)(H:Hp)(a:Addr)(xs:List V):Prop :=
 Rd H a (.tup xs) \/
  ∃(o:Obj) (aO:Array Value) (n:Nat),K.lookup a=some o/\o.cls=.type "tuple"/\o.data=.seq aO n/\aO.size<=sizeLine/\Vals xs aO.toList
def Wi:Value->Option V
 |.none=>some .bf
 |.bool b=>some (.bl b)
 |.int i _=>some (.int i)
 |.str x _=>some (.str x)
 |.bytes b _=>some (.kM b)
 |.float b _=>some (.qj b)
 |.ref a=>some (.ref a)
 |.type n=>some (.ty n)
 |_=>none
theorem RelV.abs{x:V}(r:RelV x u):Wi u=some x:=by
 cases x with
 |bf=>cases r;rfl
 |bl _=>cases r;rfl
 |int _=>obtain⟨t,rfl⟩:=r;rfl
 |str _=>obtain⟨t,rfl⟩:=r;rfl
 |kM _=>obtain⟨t,rfl⟩:=r;rfl
 |qj _=>obtain⟨t,rfl⟩:=r;rfl
 |ref _=>cases r;rfl
 |ty _=>cases r;rfl
theorem RelV.inj{x y:V}{u:Value}(r:RelV x u)(q:RelV y u):x=y:=aF (r.abs.symm.trans q.abs)
theorem Vals.inj{xs ys:List V}{us:List Value}(h:Vals xs us)(h':Vals ys us):xs=ys:=by
 induction h generalizing ys with
 |nil=>cases h';rfl
 |cons r t ih =>
  cases h' with
  |cons r' t'=>rw[r.inj r',ih t']
section
variable{ys:List V}
theorem ft.of(h:H a=some (.lst xs)):ft K H a xs:=.inl (.inl h)
theorem Inv.list(I:Inv X pins Z H s)(h:ft X.K H a xs):∃aO:List Value,Vals xs aO/\PlainL s.heap a aO.toArray/\xs.length<=sizeLine:=by
 rcases h with h|⟨o,aO,n,hk,hc,hd,hs,hz,r⟩
 ·obtain⟨z,aO,n,r,e⟩:=h.ok I.bw;exact⟨aO,r,⟨_,n,e,rfl,rfl,rfl⟩,z⟩
 ·refine⟨aO.toList,r,⟨o,n,I.fU a o hk,hc,hd,by simpa using hs⟩,?_⟩;have e:=r.length;simp only[Array.length_toList] at e;omega
theorem Inv.tuple(I:Inv X pins Z H s)(h:gS X.K H a xs):∃aO:List Value,Vals xs aO/\IsTup s.heap a aO.toArray/\xs.length<=sizeLine:=by
 rcases h with h|⟨o,aO,n,hk,hc,hs,hz,r⟩
 ·obtain⟨z,aO,r,p⟩:=h.ok I.bw;exact⟨aO,r,p.tup,z⟩
 ·refine⟨aO.toList,r,⟨o,I.fU a o hk,hc,n,by simpa using hs⟩,?_⟩;have e:=r.length;simp only[Array.length_toList] at e;omega
theorem Inv.AY(I:Inv X pins Z H s)(h:ft X.K H a xs)(h':ft X.K H a ys):xs=ys:=by
 obtain⟨aO,r,⟨o,n,e,_,_,d⟩,_⟩:=I.list h;obtain⟨its',r',⟨o',n',e',_,_,d'⟩,_⟩:=I.list h';rw[e] at e';cases e';rw[d] at d';injection d' with d1 _;have:aO=its':=by simpa using dE Array.toList d1
 subst this;exact r.inj r'
theorem Inv.Xi(I:Inv X pins Z H s)(h:gS X.K H a xs)(h':gS X.K H a ys):xs=ys:=by
 obtain⟨aO,r,⟨o,e,_,n,d⟩,_⟩:=I.tuple h;obtain⟨its',r',⟨o',e',_,n',d'⟩,_⟩:=I.tuple h';rw[e] at e';cases e';rw[d] at d';injection d' with d1 _;have:aO=its':=by simpa using dE Array.toList d1
 subst this;exact r.inj r'
end
noncomputable abbrev Cx.oq(X:Cx)(E:Value->Shared->Prop):Cx:={ X with xe:=E }
theorem Cx.Ok.oq{X:Cx}(ok:X.Ok)(E:Value->Shared->Prop):(X.oq E).Ok :=
 ⟨ok.mod,ok.kind,ok.glob,ok.blt,ok.above,ok.inj,ok.has,ok.fQ,ok.hd,ok.frames,ok.pH,ok.uy,ok.bs,ok.mJ,ok.jN,ok.kA,ok.M8,ok.mX⟩
theorem Cx.Ok.Cq(ok:(X.oq E).Ok):X.Ok :=
 ⟨ok.mod,ok.kind,ok.glob,ok.blt,ok.above,ok.inj,ok.has,ok.fQ,ok.hd,ok.frames,ok.pH,ok.uy,ok.bs,ok.mJ,ok.jN,ok.kA,ok.M8,ok.mX⟩
theorem Inv.oq(I:Inv X pins Z H s)(E:Value->Shared->Prop):Inv (X.oq E) pins Z H s:=⟨I.ok.oq E,I.os,I.bare,I.base,I.loc,I.cell,I.free,I.et,I.pin,I.bw,I.len⟩
theorem Inv.Cq(I:Inv (X.oq E) pins Z H s):Inv X pins Z H s:=⟨I.ok.Cq,I.os,I.bare,I.base,I.loc,I.cell,I.free,I.et,I.pin,I.bw,I.len⟩
section
variable{st:Stmt}{rest:List Stmt}{t u:TS}
def Fm:TS:=λD Z H=>D.nx Z H
def Sa(t u:TS):TS:=λD Z H=>t { D with nx:=u D } Z H
theorem Oq:iP X [] Fm:=λ_ _ Z H _ I h=>jA ⟨Z,H,I,h⟩
theorem Zt(h1:PS X st t)(h2:iP X rest u):iP X (st::rest) (Sa t u):=by
 intro pins s Z H D I h;refine wpAny_execs_cons (bZ (h1 pins s Z H { D with nx:=u D } I h) λf s1 q=>?_);cases f with
 |next =>
  obtain⟨bI,H',I',q⟩:=q;exact h2 pins s1 bI H' D I' q
 |ret v=>exact q
 |brk=>exact q
 |cont=>exact q
theorem Om:PS X (.Pass pos) Fm:=λ_ _ Z H _ I h=>wpAny_Pass ⟨Z,H,I,h⟩
theorem Inv.quiet(I:Inv X pins Z H s):interactive X.env=false:=by simp[interactive,I.ok.kind]
def Uq(te:TE):TS:=λD Z H=>te Z H λ_ H1=>D.nx Z H1
theorem Ol(he:PE X e te)(hs:swapsWith e none pos.line X.env=pure false:=by rfl):PS X (.Expr e pos) (Uq te):=by
 intro pins s Z H D I h;exact wpAny_Expr_any (bZ (he pins s Z H _ I h) λv s1 ⟨x,H1,I1,r1,q1⟩=>⟨Z,H1,I1,q1⟩) I.quiet hs
def RZ(te:TE):TS:=λD Z H=>te Z H D.rt
theorem VW(he:PE X e te):PS X (.Return (some e) pos) (RZ te):=by
 intro pins s Z H D I h;exact wpAny_Return_some (bZ (he pins s Z H _ I h) λv s1 ⟨x,H1,I1,r1,q1⟩=>⟨x,Z,H1,I1,r1,q1⟩)
def Ut:TS:=λD _ H=>D.rt .bf H
theorem Oo:PS X (.Return none pos) Ut:=λ_ _ Z H _ I h=>wpAny_Return_none ⟨.bf,Z,H,I,rfl,h⟩
def RT(c:TT)(t u:TS):TS:=λD Z H=>c Z H λb H1=>if b=true then t D Z H1 else u D Z H1
theorem TU{a b:List Stmt}{tc:TT}(hc:PT X c tc)(ha:iP X a t)(hb:iP X b u):PS X (.If c a b pos) (RT tc t u):=by
 intro pins s Z H D I h;refine wpAny_If (bZ (hc pins s Z H _ I h) λd s1 ⟨H1,I1,q1⟩=>?_);cases d with
 |true=>exact ha pins s1 Z H1 D I1 q1
 |false=>exact hb pins s1 Z H1 D I1 q1
end
noncomputable abbrev TG:=V->St->Hp->(St->Hp->Prop)->Prop
noncomputable abbrev pk:=List V->St->Hp->(St->Hp->Prop)->Prop
def PG(X:Cx)(target:Expr)(t:TG):Prop :=
 ∀(pins:List (Addr×Obj)) (s:Shared) (Z:St) (H:Hp) (v:V) (u:Value) (Q:St->Hp->Prop),Inv X pins Z H s->RelV v u->t v Z H Q ->
  wpAny (model X.prog X.w) X.A (assign target X.env u) (λ_ s'=>∃bI H',Inv X pins bI H' s'/\Q bI H') X.xe s
def vD(X:Cx)(ts:List Expr)(t:pk):Prop :=
 ∀(pins:List (Addr×Obj)) (s:Shared) (Z:St) (H:Hp) (vs:List V) (us:List Value) (Q:St->Hp->Prop),Inv X pins Z H s->Vals vs us->t vs Z H Q ->
  wpAny (model X.prog X.w) X.A (assignInOrder ((assignEach ts X.env).map (·.2)) us) (λ_ s'=>∃bI H',Inv X pins bI H' s'/\Q bI H') X.xe s
noncomputable abbrev Ar:=V->V->V->Hp->(Hp->Prop)->Prop
def Aq(X:Cx)(t:Ar):Prop :=
 ∀(pins:List (Addr×Obj)) (s:Shared) (Z:St) (H:Hp) (o i v:V) (ov iv u:Value) (Q:Hp->Prop),Inv X pins Z H s->RelV o ov->RelV i iv->RelV v u->t o i v H Q ->
  wpAny (model X.prog X.w) X.A (setItem ov iv u) (λ_ s'=>∃H',Inv X pins Z H' s'/\Q H') X.xe s
noncomputable abbrev CI:=V->V->Hp->VK->Prop
def Ja(X:Cx)(op:Operator)(t:CI):Prop :=
 ∀(pins:List (Addr×Obj)) (s:Shared) (Z:St) (H:Hp) (x y:V) (v u:Value) (Q:VK),Inv X pins Z H s->RelV x v->RelV y u->t x y H Q ->
  wpAny (model X.prog X.w) X.A (inplaceOp op v u) (EP X pins Z Q) X.xe s
def sd(i:Nat):TG:=λv Z H Q=>Q (Z.set i (some v)) H
theorem HP(hN:X.N.Nodup)(hi:X.N[i]?=some x)(hx:Loc X.env.scope x)(hf:X.fn x=true\/X.env.scope.names.lookup x=some .local:=by first|exact .inl rfl|exact .inr rfl|assumption):PG X (.Name x pos) (sd i):=by
 intro pins s Z H v u Q I r h;exact wpAny_assign_Name (U5 I hN hi hx r (λs' I'=>⟨_,H,I',h⟩) hf)
def FA:pk:=λvs Z H Q=>vs=[]/\Q Z H
def ET(t:TG)(u:pk):pk:=λvs Z H Q=>∃v r,vs=v::r/\t v Z H λbI H'=>u r bI H' Q
theorem Og:vD X [] FA:=by
 intro pins s Z H vs us Q I r h;obtain⟨e,h⟩:=h;subst e;cases r;exact assignInOrder_nil ⟨Z,H,I,h⟩
theorem QB{t:TG}{u:pk}(h1:PG X e t)(h2:vD X es u)(hs:(assignEach (e::es) X.env).map (·.2)=assign e X.env::(assignEach es X.env).map (·.2):=by rfl):vD X (e::es) (ET t u):=by
 intro pins s Z H vs us Q I r h;obtain⟨v,vr,e1,h⟩:=h;subst e1;cases r with
 |cons r rr =>
  rw[hs];refine vJ (bZ (h1 pins s Z H _ _ _ I r h) λ_ s1 aT=>?_);obtain⟨iA,H1,I1,q1⟩:=aT;exact h2 pins s1 iA H1 _ _ Q I1 rr q1
def FC(K:PySem.W.Frag)(n:Nat)(t:pk):TG:=λv Z H Q=>∃a xs,v=.ref a/\gS K H a xs/\xs.length=n/\t xs Z H Q
theorem Hc{t:pk}{n:Nat}(hc:X.calm=true)(h:vD X es t)(hn:(assignEach es X.env).length=n:=by rfl)(eU:(assignEach es X.env).findIdx? (·.1)=none:=by rfl):PG X (.Tuple es k pos) (FC X.K n t):=by
 intro pins s Z H v u Q I r hw;obtain⟨a,xs,e1,hq,hl,hw⟩:=hw;subst e1;cases r;obtain⟨aO,rv,ht,hz⟩:=I.tuple hq;refine assign_Tuple_tuple (I.ok.hd hc) ht (by simp[hn,<- hl,rv.length]) eU λh' hx=>?_;have I1:Inv X pins Z H { s with heap:=h' }:=I.kept (t':=s.toks) λb o e=>hx b o (aI (av e)) e;exact h pins _ Z H xs _ Q I1 (by simpa using rv) hw
def QN(to ti:TE)(t:Ar):TG:=λv Z H Q=>to Z H λo H1=>ti Z H1 λi H2=>t o i v H2 λH3=>Q Z H3
theorem VO{o i:Expr}{to ti:TE}{t:Ar}(ho:PE X o to)(hi:PE X i ti)(hs:Aq X t)(ha:∀ v,assign (.Subscript o i pos) X.env v=(do
   let ov <- holding [v] (eval o X.env)
   let iv <- holding [v,ov] (eval i X.env)
   standAt pos
   holding [v,ov,iv] (setItem ov iv v)
   release [v,ov,iv] []):=by intro _;rfl):PG X (.Subscript o i pos) (QN to ti t):=by
 intro pins s Z H v u Q I r h;rw[ha];refine aa (bq (bZ (ho pins s Z H _ I h) λov s1 aT=>?_));obtain⟨x,H1,I1,r1,q1⟩:=aT;refine aa (bq (bZ (hi pins s1 Z H1 _ I1 q1) λiv s2 aT=>?_));obtain⟨y,H2,I2,r2,q2⟩:=aT;refine aa (cT (aa (bq (bZ (hs pins s2 Z H2 x y v ov iv u _ I2 r1 r2 r q2) λ_ s3 ⟨H3,I3,q3⟩=>?_))));exact wpAny_release ⟨Z,H3,I3,q3⟩
def vt(te:TE)(g:TG):TS:=λD Z H=>te Z H λx H1=>g x Z H1 D.nx
theorem Hd{g:TG}(he:PE X e te)(hg:PG X tg g)(hs:swapsWithSole [tg] e pos.line X.env=pure false:=by rfl)(hw:swappedStores [tg] e X.env=pure none:=by rfl)(h1:(assignEach [tg] X.env).map (·.2)=[assign tg X.env]:=by rfl):PS X (.Assign [tg] e pos) (vt te g):=by
 intro pins s Z H D I h;refine wpAny_Assign_stores (bZ (he pins s Z H _ I h) λv s1 aT=>?_) hs hw;obtain⟨x,H1,I1,r1,q1⟩:=aT;rw[h1];exact bZ (hg pins s1 Z H1 x v _ I1 r1 q1) λ_ s2 q=>q
theorem He(hN:X.N.Nodup)(hi:X.N[i]?=some x)(hx:Loc X.env.scope x)(he:PE X e te)(hs:swapsWith e (some (.Name x pos')) pos.line X.env=pure false:=by rfl)(hf:X.fn x=true\/X.env.scope.names.lookup x=some .local:=by first|exact .inl rfl|exact .inr rfl|assumption) :
  PS X (.Assign [.Name x pos'] e pos) (vt te (sd i)):=by
 intro pins s Z H D I h;refine wpAny_Assign_Name (bZ (he pins s Z H _ I h) λv s1 aT=>?_) hs;obtain⟨y,H1,I1,r1,q1⟩:=aT;exact U5 I1 hN hi hx r1 (λs2 I2=>⟨_,H1,I2,q1⟩) hf
def RY(i j:Nat)(ta:TA):TS:=λD Z H=>ta Z H λvs H1=>∃v w,vs=[v,w]/\D.nx ((Z.set i (some v)).set j (some w)) H1
theorem VU{y:Str}{a b:Expr}{ta:TA}{px py pt:Pos}{kt k2 oH}(hc:X.calm=true)(hN:X.N.Nodup)(hi:X.N[i]?=some x)(hj:X.N[j]?=some y)(iN:i≠j)(hx:X.env.scope.names.lookup x=some .local)(hy:X.env.scope.names.lookup y=some .local)(ha:PA X [a,b] ta)(hw:swappedStores [.Tuple [.Name x px,.Name y py] kt pt] (.Tuple [a,b] k2 oH) X.env=pure (some [x,y]))(hs:swapsWithSole [.Tuple [.Name x px,.Name y py] kt pt] (.Tuple [a,b] k2 oH) pos.line X.env=pure false:=by rfl) :
  PS X (.Assign [.Tuple [.Name x px,.Name y py] kt pt] (.Tuple [a,b] k2 oH) pos) (RY i j ta):=by
 intro pins s Z H D I h;rw[exec_Assign_arm];refine aa (cT ?_);rw[hs];refine aa (ai ?_);rw[az (by decide)];refine aa (Tuple_ (bZ (ha _ pins s Z H _ I h) λus s1 aT=>?_));obtain⟨vs,H1,I1,r1,q1⟩:=aT;obtain⟨v,w,e1,q1⟩:=q1;subst e1;obtain⟨u1,u2,rfl,rv,eW⟩:∃u1 u2,us=[u1,u2]/\RelV v u1/\RelV w u2:=by
  cases r1 with
  |cons p q =>
   cases q with
   |cons p' q' =>
    cases q';exact⟨_,_,rfl,p,p'⟩
 refine bD ?_ (by show 2<=sizeLine;decide);have I2:Inv X pins Z H1 { s1 with heap:=s1.heap.push { cls:=.type "tuple",data:=.seq [u1,u2].toArray } }:=I1.kept (t':=s1.toks) λb o e=>ah _ e;rw[hw];refine aa (ai ?_);show wpAny (model X.prog X.w) X.A (do rule "assign.swapped-stores";let items <- unpackItems (.ref s1.heap.objs.size) 2 none;assignInOrder [λv=>bindName X.env y v,λv=>bindName X.env x v] items.reverse;pure Flow.next) _ _ _;refine aa (fc (aa (unpackItems_tuple (items:=#[u1,u2]) (I.ok.hd hc) (IsTup.new s1.heap _) λh' yI=>?_)));have I3:=I2.kept (h':=h') (t':=s1.toks) λb o e=>yI b o (aI (av e)) e;show wpAny _ _ (assignInOrder [λv=>bindName X.env y v,λv=>bindName X.env x v] [u2,u1] >>= λ_=>pure Flow.next) _ _ _;refine aa (vJ (wpAny_bindName (U5 I3 hN hj (.inl hy) eW (λs2 I4=>?_) (.inr hy))));refine vJ (wpAny_bindName (U5 I4 hN hi (.inl hx) rv (λs3 I5=>assignInOrder_nil (ai ?_)) (.inr hx)));rw[List.set_comm _ _ (aZ iN)] at I5;exact⟨_,H1,I5,q1⟩
def RO(i:Nat)(te:TE)(ti:CI):TS:=λD Z H=>∃x,Z[i]?=some (some x)/\te Z H λy H1=>ti x y H1 λz H2=>D.nx (Z.set i (some z)) H2
theorem VR{op:Operator}{ti:CI}(hN:X.N.Nodup)(hi:X.N[i]?=some x)(hx:Loc X.env.scope x)(he:PE X e te)(ho:Ja X op ti)(hf:X.fn x=true\/X.env.scope.names.lookup x=some .local:=by first|exact .inl rfl|exact .inr rfl|assumption) :
  PS X (.AugAssign (.Name x pos') op e pos) (RO i te ti):=by
 intro pins s Z H D I h;obtain⟨v,e1,h⟩:=h;obtain⟨m,hn,hl⟩:=I.loc;have pE:vy X.env.scope x:=by rcases hx with k|k;exact .inl k;exact .inr (.inl k)
 obtain⟨u,r,l⟩:=hl i x v hi e1 pE;refine wpAny_AugAssign_Name ?_;have go:wpAny (model X.prog X.w) X.A (eval e X.env) (λw fb=>wpAny (model X.prog X.w) X.A (inplaceOp op u w) (λr dy=>wpAny (model X.prog X.w) X.A (storeName X.env x r) (λ_=>SP X pins D .next) X.xe dy) X.xe fb) X.xe s:=by
  refine bZ (he pins s Z H _ I h) λw s1 aT=>?_;obtain⟨y,H1,I1,r1,q1⟩:=aT;refine bZ (ho pins s1 Z H1 v y u w _ I1 r r1 q1) λz s2 aT=>?_;obtain⟨zv,H2,I2,r2,q2⟩:=aT;exact U5 I2 hN hi hx r2 (λs3 I3=>⟨_,H2,I3,q2⟩) hf
 rcases l with⟨hk,hm⟩|⟨hk,c,hc,kJ⟩
 ·exact wpAny_loadName_local I.ok.kind hk hn hm go
 ·rcases hk with hk|hk
  ·exact wpAny_loadName_cell I.ok.kind hk hc kJ go
  ·rcases hx with k|k
   ·have:X.env.scope.names.lookup x=some .free:=hk;rw[k] at this;cases this
   ·have:X.env.scope.names.lookup x=some .free:=hk;rw[k] at this;cases this
def ML(c:TT)(tb:TS):TS:=λD Z H=>∃W:Nat->St->Hp->Prop,(∃m,W m Z H)/\∀m Z H,W m Z H ->
 c Z H λb H1=>if b=true then ∃N:St->Hp->Prop,(∀bI H',N bI H'->∃m',m'<m/\W m' bI H')/\tb { D with nx:=N,ct:=N,bk:=D.nx } Z H1 else D.nx Z H1
theorem Zs{tc:TT}{tb:TS}(hp:PassesOwn (model X.prog X.w) X.A X.env X.xe)(hc:PT X c tc)(hb:iP X body tb):PS X (.While c body [] pos) (ML tc tb):=by
 intro pins s Z H D I h;obtain⟨W,⟨m0,w0⟩,turn⟩:=h;refine wpAny_While (codeAny_whileLoop (λn s'=>∃bI H',Inv X pins bI H' s'/\W n bI H') ?_ m0 ⟨Z,H,I,w0⟩);rintro n s1 ⟨iA,H1,I1,w1⟩;refine dO hp (bZ (hc pins s1 iA H1 _ I1 (turn n iA H1 w1)) λb s2 ⟨H2,I2,q2⟩=>?_);cases b with
 |true =>
  obtain⟨N,hN,q2⟩:=q2;rw[aG rfl];refine dO hp (bZ (hb pins s2 iA H2 _ I2 q2) λf s3 q3=>?_);cases f with
  |next =>
   obtain⟨gY,H3,I3,n3⟩:=q3;obtain⟨m',hm,w3⟩:=hN gY H3 n3;exact⟨m',hm,gY,H3,I3,w3⟩
  |cont =>
   obtain⟨gY,H3,I3,n3⟩:=q3;obtain⟨m',hm,w3⟩:=hN gY H3 n3;exact⟨m',hm,gY,H3,I3,w3⟩
  |brk=>exact q3
  |ret v=>exact q3
 |false =>
  rw[az bA];exact jA ⟨iA,H2,I2,q2⟩
structure It where
 go:Nat->Hp->Prop
 nA:Nat->Hp->V->Hp->Prop
 stop:Nat->Hp->Prop
def w5(X:Cx)(pins:List (Addr×Obj))(H:Hp)(b:Addr):Prop :=
 H b=none/\b≠X.env.locals/\b∉X.fs/\(b∈X.ex\/X.df.heap.objs.size<=b)/\(∀x c,X.env.cells.lookup x=some c->c≠b)/\∀p∈X.pn++pins,p.1≠b
theorem Inv.nY(I:Inv X pins Z H s)(hb:s.heap.objs.size<=b)(hn:H' b=none):w5 X pins H' b:=by
 refine⟨hn,bt (ak I.lt hb),I.qD hb,.inr (aJ I.sz hb),λx c e z=>?_,λp hp z=>?_⟩
 ·obtain⟨v,q⟩:=I.cell x c e;exact absurd (ak q.lt (by rw[z];exact hb)) (aX _)
 ·exact absurd (ak (av (I.pin p hp).1) (by rw[z];exact hb)) (aX _)
structure Turn(P:Program)(w:World)(K:PySem.W.Frag)(tg:Expr)(J:It)(fp:List Addr)(it:Addr)(tn:Nat->Heap->Prop):Prop where
 mem:it∈fp
 obj:∀i h,tn i h->∀b∈fp,∃o,h.get? b=some o/\∀v,o.data≠.cell v
 keep:∀i h h',tn i h->(∀b∈fp,∀o,h.get? b=some o->h'.get? b=some o)->tn i h'
 item:∀(X:Cx),X.prog=P->X.w=w->X.K=K->X.calm=true->∀(i:Nat) (pins:List (Addr×Obj)) (s:Shared) (Z:St) (H:Hp) (E:Value->Shared->Prop),Inv X pins Z H s->(∀b∈fp,w5 X pins H b)->tn i s.heap->J.go i H ->
  wpAny (model P w) X.A (pyNext (.ref it)) (λr s1=>∃ u,r=some u /\
   wpAny (model P w) X.A (letOwnedTupleGo tg (.ref it) u) (λ_ s2=>∃ x H',Inv X pins Z H' s2/\RelV x u/\J.nA i H x H'/\tn (i + 1) s2.heap/\∀ b ∈ fp,H' b=none) E s1) E s
 done:∀(X:Cx),X.prog=P->X.w=w->X.K=K->X.calm=true->∀(i:Nat) (pins:List (Addr×Obj)) (s:Shared) (Z:St) (H:Hp) (E:Value->Shared->Prop),Inv X pins Z H s->(∀b∈fp,w5 X pins H b)->tn i s.heap->J.stop i H ->
  wpAny (model P w) X.A (pyNext (.ref it)) (λr s1=>r=none/\Inv X pins Z H s1) E s
 self:∀(A:Around) (i:Nat) (s:Shared) (Q:Value->Shared->Prop) (E:Value->Shared->Prop),tn i s.heap->Q (.ref it) s->wpAny (model P w) A (pyIter (.ref it)) Q E s
noncomputable abbrev TI:=St->Hp->(It->Hp->Prop)->Prop
def Jb(X:Cx)(pins:List (Addr×Obj))(Z:St)(tg:Expr)(R:It->Hp->Prop)(rj:Value)(s2:Shared):Prop :=
 ∃(it:Addr) (fp:List Addr) (tn:Nat->Heap->Prop) (J:It) (H':Hp),rj=.ref it/\Inv X pins Z H' s2/\Turn X.prog X.w X.K tg J fp it tn/\tn 0 s2.heap/\(∀b∈fp,w5 X pins H' b)/\R J H'
def PI(X:Cx)(tg iter:Expr)(wi:TI):Prop :=
 ∀(pins:List (Addr×Obj)) (s:Shared) (Z:St) (H:Hp) (R:It->Hp->Prop),Inv X pins Z H s->wi Z H R ->
  wpAny (model X.prog X.w) X.A (eval iter X.env) (λv s1=>wpAny (model X.prog X.w) X.A (pyIter v) (Jb X pins Z tg R) X.xe s1) X.xe s
theorem xI{it:Addr}{o:Obj}{n:String}{vs:Array Value}{Q:Unit->Shared->Prop}(ho:s.heap.get? it=some o)(hc:o.cls=.type n)(hd:o.data=.fields vs)(hn:["enumerate","zip","dict_itemiterator","dict_reverseitemiterator","odict_iterator","itertools.zip_longest","itertools.pairwise"].contains n=false)(hQ:Q () s):wpAny M A (letOwnedTupleGo tg (.ref it) u) Q E s:=by
  unfold letOwnedTupleGo;cases tg<;>first
    |exact ai hQ
    | (cases u <;> first
        |exact ai hQ
        | (refine aa (wpAny_load ho ?_)
           rw[hc,hd];show wpAny M A (if(["enumerate","zip","dict_itemiterator","dict_reverseitemiterator","odict_iterator","itertools.zip_longest","itertools.pairwise"].contains n&&vs[0]?==some (rawInt _))=true then _ else _) Q E s;rw[az (by intro h;rw[hn,nz] at h;cases h)];exact ai hQ))
def CL(K:PySem.W.Frag)(a:Addr):It :=
 ⟨λi H=>∃xs x,ft K H a xs/\xs[i]?=some x,λi H x H'=>H'=H/\∀xs,ft K H a xs->xs[i]?=some x,λi H=>∃xs,ft K H a xs/\xs.length<=i⟩
def CK(K:PySem.W.Frag)(a:Addr):It :=
 ⟨λi H=>∃xs x,gS K H a xs/\xs[i]?=some x,λi H x H'=>H'=H/\∀xs,gS K H a xs->xs[i]?=some x,λi H=>∃xs,gS K H a xs/\xs.length<=i⟩
def vF(lo:Int)(n:Nat):It:=⟨λi _=>i<n,λi H x H'=>H'=H/\x=.int (lo+i),λi _=>n<=i⟩
theorem Xl(a it:Addr):Turn P w K tg (CL K a) [it] it (λi h=>h.IsListIter it a i) where
 mem:=by simp
 obj:=λi h st b hb=>by
  have e:b=it:=by simpa using hb
  subst e;obtain⟨o,e,c,d⟩:=st;exact⟨o,e,λv z=>by rw[d] at z;cases z⟩
 keep:=λi h h' st k=>st.at λo e=>k it (by simp) o e
 item:=by
  intro X hP hw hK hc i pins s Z H E I hf st hg;subst hP hw hK;obtain⟨xs,x,hq,hx⟩:=hg;obtain⟨aO,rv,p,hz⟩:=I.list hq;obtain⟨u,hu,ru⟩:=rv.get hx;obtain⟨f0,f1,f2,f3,f4,f5⟩:=hf it (by simp);refine wpAny_pyNext_list_item st p.isList (x:=u) (by simpa using hu) λh' kX sb=>?_;have I1:Inv X pins Z H { s with heap:=h' }:=I.turned (t':=s.toks) (λb o hb e=>(sb.2 b hb).trans e) f0 f1 f3 f4 f5;obtain⟨o,e,c,d⟩:=id kX;exact⟨u,rfl,xI (s:={ s with heap:=h' }) e c d (by decide) ⟨x,H,I1,ru,⟨rfl,λys hy=>by rw[I.AY hy hq];exact hx⟩,kX,λb hb=>(hf b hb).1⟩⟩
 done:=by
  intro X hP hw hK hc i pins s Z H E I hf st hg;subst hP hw hK;obtain⟨xs,hq,hx⟩:=hg;obtain⟨aO,rv,p,hz⟩:=I.list hq;obtain⟨f0,f1,f2,f3,f4,f5⟩:=hf it (by simp);have hl:=rv.length;exact wpAny_pyNext_list_end (I.ok.hd hc) st p.isList (by simp;omega) λh' eb=>⟨rfl,I.turned (t':=s.toks) (λb o hb e=>eb b o hb e) f0 f1 f3 f4 f5⟩
 self:=λ_ _ _ _ _ st h=>wpAny_pyIter_listiter st h
theorem Ye(a it:Addr):Turn P w K tg (CK K a) [it] it (λi h=>h.IsTupleIter it a i) where
 mem:=by simp
 obj:=λi h st b hb=>by
  have e:b=it:=by simpa using hb
  subst e;obtain⟨o,e,c,d⟩:=st;exact⟨o,e,λv z=>by rw[d] at z;cases z⟩
 keep:=λi h h' st k=>st.at λo e=>k it (by simp) o e
 item:=by
  intro X hP hw hK hc i pins s Z H E I hf st hg;subst hP hw hK;obtain⟨xs,x,hq,hx⟩:=hg;obtain⟨aO,rv,p,hz⟩:=I.tuple hq;obtain⟨u,hu,ru⟩:=rv.get hx;obtain⟨f0,f1,f2,f3,f4,f5⟩:=hf it (by simp);refine wpAny_pyNext_tuple_item st (show s.heap.IsTuple a aO.toArray from p) (x:=u) (by simpa using hu) λh' kX sb=>?_;have I1:Inv X pins Z H { s with heap:=h' }:=I.turned (t':=s.toks) (λb o hb e=>(sb.2 b hb).trans e) f0 f1 f3 f4 f5;obtain⟨o,e,c,d⟩:=id kX;exact⟨u,rfl,xI (s:={ s with heap:=h' }) e c d (by decide) ⟨x,H,I1,ru,⟨rfl,λys hy=>by rw[I.Xi hy hq];exact hx⟩,kX,λb hb=>(hf b hb).1⟩⟩
 done:=by
  intro X hP hw hK hc i pins s Z H E I hf st hg;subst hP hw hK;obtain⟨xs,hq,hx⟩:=hg;obtain⟨aO,rv,p,hz⟩:=I.tuple hq;obtain⟨f0,f1,f2,f3,f4,f5⟩:=hf it (by simp);have hl:=rv.length;exact wpAny_pyNext_tuple_end (I.ok.hd hc) st (show s.heap.IsTuple a aO.toArray from p) (by simp;omega) λh' eb=>⟨rfl,I.turned (t':=s.toks) (λb o hb e=>eb b o hb e) f0 f1 f3 f4 f5⟩
 self:=λ_ _ _ _ _ st h=>wpAny_pyIter_tupleiter st h
theorem Yc(it:Addr)(lo:Int)(n:Nat):Turn P w K tg (vF lo n) [it] it (λi h=>IsRangeIter h it (lo+(i:Nat)*1) ((n:Int)-(i:Nat)) 1) where
 mem:=by simp
 obj:=λi h st b hb=>by
  have e:b=it:=by simpa using hb
  subst e;exact ⟨_,st,λv z=>by
   have z':Data.fields _=Data.cell v:=z;cases z'⟩
 keep:=λi h h' st k=>k it (by simp) _ st
 item:=by
  intro X hP hw hK hc i pins s Z H E I hf st hg;subst hP hw hK;obtain⟨f0,f1,f2,f3,f4,f5⟩:=hf it (by simp);have W:=Walks.range (prog:=X.prog) (w:=X.w) (I.ok.hd hc) it lo 1 n;refine W.item i s _ _ hg st λv h' tk hv kX kk=>?_;obtain⟨t,rfl⟩:=hv;have I1:Inv X pins Z H { s with heap:=h',toks:=tk }:=I.turned (λb o hb e=>kk b o (by simpa using hb) e) f0 f1 f3 f4 f5;refine⟨_,rfl,xI (s:={ s with heap:=h',toks:=tk }) (n:="range_iterator") kX rfl rfl (by decide) ⟨.int (lo+i),H,I1,⟨t,?_⟩,⟨rfl,rfl⟩,kX,λb hb=>(hf b hb).1⟩⟩;rw[Int.mul_one]
 done:=by
  intro X hP hw hK hc i pins s Z H E I hf st hg;subst hP hw hK;obtain⟨f0,f1,f2,f3,f4,f5⟩:=hf it (by simp);exact wpAny_pyNext_range_end (I.ok.hd hc) st (by have:n<=i:=hg;omega) λh' eb=>⟨rfl,I.turned (t':=s.toks) (λb o hb e=>eb b o hb e) f0 f1 f3 f4 f5⟩
 self:=λ_ _ _ _ _ st h=>wpAny_pyIter_rangeiter st h
theorem Iy{R:It->Hp->Prop}{lo hi:Int}{t u v:Tok}{tk:Nat}(I:Inv X pins Z H s)(h1:-(2 ^ 62)<=lo)(h2:lo<2 ^ 62)(h3:-(2 ^ 62)<=hi)(h4:hi<2 ^ 62)(q:R (vF lo (hi-lo).toNat) H):wpAny (model X.prog X.w) X.A (pyIter (.ref s.heap.objs.size)) (Jb X pins Z tg R) E { s with heap:=s.heap.push { cls:=.type "range",data:=.fields #[.int lo t,.int hi u,.int 1 v] },toks:=tk }:=by
 refine wpAny_pyIter_range (IsRange.new ..) (small_one h1 h2 h3 h4) ?_;have I1:Inv X pins Z H { s with heap:=s.heap.push { cls:=.type "range",data:=.fields #[.int lo t,.int hi u,.int 1 v] },toks:=tk }:=I.kept λb o e=>ah _ e;refine ⟨(s.heap.push { cls:=.type "range",data:=.fields #[.int lo t,.int hi u,.int 1 v] }).objs.size,[(s.heap.push { cls:=.type "range",data:=.fields #[.int lo t,.int hi u,.int 1 v] }).objs.size],_,_,H,rfl,
  I1.kept (t':=tk) λb o e=>ah _ e,Yc _ lo (hi - lo).toNat,?_,λb hb=>?_,q⟩
 ·have e1:lo+((0:Nat):Int)*1=lo:=by simp
  have e2:(((hi-lo).toNat:Nat):Int)-((0:Nat):Int)=Builtin.Range.rangeSize lo hi 1:=by rw[rangeSize_one];split<;>omega
  show IsRangeIter _ _ (lo+((0:Nat):Int)*1) ((((hi-lo).toNat:Nat):Int)-((0:Nat):Int)) 1;rw[e1,e2];exact aw _ rfl
 ·have e:b=(s.heap.push { cls:=.type "range",data:=.fields #[.int lo t,.int hi u,.int 1 v] }).objs.size:=by simpa using hb
  subst e;exact I1.nY (aj _) (I1.bw.fresh (aj _))
def SV(ta:TA):TI:=λZ H R=>ta Z H λvs H1=>∃j:Int,vs=[.int j]/\-(2 ^ 62)<=j/\j<2 ^ 62/\R (vF 0 j.toNat) H1
def SW(ta:TA):TI:=λZ H R=>ta Z H λvs H1=>∃i j:Int,vs=[.int i,.int j]/\(-(2 ^ 62)<=i/\i<2 ^ 62/\-(2 ^ 62)<=j/\j<2 ^ 62)/\R (vF i (j-i).toNat) H1
theorem WU{a:Expr}{ta:TA}(hg:Gl X "range")(hm:X.mg "range"=none)(ha:PA X [a] ta)(hs:starEach [a] X.env=[(false,eval a X.env)]:=by rfl):PI X tg (.Call (.Name "range" p) [a] [] pos) (SV ta):=by
 intro pins s Z H R I h;refine Call_ (O5 I hg hm boot_range (bK (bZ (ha pos pins s Z H _ I h) λus s1 aT=>?_) hs rfl));obtain⟨vs,H1,I1,r1,q1⟩:=aT;obtain⟨j,e,q1,q2,q⟩:=q1;subst e;cases r1 with
 |cons r rr =>
  cases rr;obtain⟨t,rfl⟩:=r;exact call_range_1 (Iy I1 (by omega) (by omega) q1 q2 (by simpa using q))
theorem WV{a b:Expr}{ta:TA}(hg:Gl X "range")(hm:X.mg "range"=none)(ha:PA X [a,b] ta)(hs:starEach [a,b] X.env=[(false,eval a X.env),(false,eval b X.env)]:=by rfl)(gZ:starEach [b] X.env=[(false,eval b X.env)]:=by rfl) :
  PI X tg (.Call (.Name "range" p) [a,b] [] pos) (SW ta):=by
 intro pins s Z H R I h;refine Call_ (O5 I hg hm boot_range (bK (bZ (ha pos pins s Z H _ I h) λus s1 aT=>?_) (by rw[hs,gZ]) (by rw[gZ];rfl)));obtain⟨vs,H1,I1,r1,q1⟩:=aT;obtain⟨i,j,e,⟨q1,q2,q3,q4⟩,q⟩:=q1;subst e;cases r1 with
 |cons r rr =>
  cases rr with
  |cons r' rr =>
   cases rr;obtain⟨t,rfl⟩:=r;obtain⟨t',rfl⟩:=r';exact call_range_2 (Iy I1 q1 q2 q3 q4 q)
def RS(wi:TI)(g:TG)(tb:TS):TS:=λD Z H=>wi Z H λJ H1=>∃W:Nat->Nat->St->Hp->Prop,(∃m,W 0 m Z H1)/\∀i m Z H,W i m Z H ->
 (J.stop i H/\D.nx Z H)\/(J.go i H/\∃N:St->Hp->Prop,(∀bI H',N bI H'->∃m',m'<m/\W (i+1) m' bI H')/\∀x H',J.nA i H x H'->g x Z H' λcq H2=>tb { D with nx:=N,ct:=N,bk:=D.nx } cq H2)
def V1(fp:List Addr)(h:Heap):List (Addr×Obj):=fp.filterMap λb=>(h.get? b).map λo=>(b,o)
theorem N8{o:Obj}(hb:b∈fp)(e:h.get? b=some o):(b,o)∈V1 fp h:=jI.mpr ⟨b,hb,by rw[e];rfl⟩
theorem a12{p:Addr×Obj}(hp:p∈V1 fp h):p.1∈fp/\h.get? p.1=some p.2:=by
 obtain⟨b,hb,e⟩:=jI.mp hp;cases q:h.get? b with
 |none=>rw[q] at e;cases e
 |some o =>
  rw[q] at e;have e':(b,o)=p:=aF e;subst e';exact⟨hb,q⟩
theorem Inv.pinned(I:Inv X pins Z H s)(hf:∀b∈fp,w5 X pins H b)(ho:∀b∈fp,∃o,s.heap.get? b=some o/\∀v,o.data≠.cell v):Inv X (pins++V1 fp s.heap) Z H s :=
 I.E5 λp hp=>(dF.mp hp).elim (λz=>I.pin p (aU _ z)) λz=>by
  obtain⟨hb,e⟩:=a12 z;obtain⟨f0,f1,f2,_⟩:=hf p.1 hb;obtain⟨o,e',d⟩:=ho p.1 hb;rw[e] at e';cases e';exact⟨e,f0,f1,f2,d⟩
theorem Inv.Bf{pl:List (Addr×Obj)}(I:Inv X (pins++pl) Z H s):Inv X pins Z H s:=I.E5 λp hp=>I.pin p (aU _ (cY _ hp))
theorem VT{iter:Expr}{wi:TI}{g:TG}{tb:TS}(hp:PassesOwn (model X.prog X.w) X.A X.env X.xe)(hc:X.calm=true)(hi:PI X tg iter wi)(hg:PG X tg g)(hb:iP X body tb)(hs:∀x,foldedSetIterable iter X.env x=pure x:=by intro _;rfl):PS X (.For tg iter body [] pos) (RS wi g tb):=by
 intro pins s Z H D I h;refine wpAny_For (bZ (hi pins s Z H _ I h) λv s1 h1=>bZ h1 λrj s2 h2=>?_) hs;obtain⟨it,fp,tn,J,H2,e,I2,T,jk,f2,W,⟨m0,w0⟩,turn⟩:=h2;subst e;have pI:∀{H':Hp},(∀b∈fp,H' b=none)->∀b∈fp,w5 X pins H' b:=λhn b hb=>⟨hn b hb,(f2 b hb).2⟩
 refine codeAny_forLoop_any (λn s'=>∃i bI H',Inv X pins bI H' s'/\tn i s'.heap/\(∀b∈fp,H' b=none)/\W i n bI H') ?_ m0 ⟨0,Z,H2,I2,jk,λb hb=>(f2 b hb).1,w0⟩;rintro n s3 ⟨i,gY,H3,I3,lR,mH,w3⟩;rcases turn i n gY H3 w3 with⟨stop,qn⟩|⟨go,N,hN,step⟩
 ·refine dO hp (bZ (T.done X rfl rfl rfl hc i pins s3 gY H3 X.xe I3 (pI mH) lR stop) λr s4 ⟨hr,I4⟩=>?_);subst hr;exact jA ⟨gY,H3,I4,qn⟩
 ·refine dO hp (bZ (T.item X rfl rfl rfl hc i pins s3 gY H3 X.xe I3 (pI mH) lR go) λr s4 ⟨u,hr,h4⟩=>?_);subst hr;refine dO hp (bZ h4 λ_ s5 aT=>?_);obtain⟨x,H5,I5,r5,y5,kj,qi⟩:=aT;have qT:=I5.pinned (pI qi) (T.obj _ _ kj);refine dO hp (bZ (hg _ s5 gY H5 x u _ qT r5 (step x H5 y5)) λ_ s6 aT=>?_);obtain⟨ja,H6,I6,q6⟩:=aT;refine dO hp (bZ (hb _ s6 ja H6 _ I6 q6) λf s7 q7=>?_);have again:∀{lP:St} {H7:Hp},Inv X (pins++V1 fp s5.heap) lP H7 s7->N lP H7->∃m,m<n/\∃i bI H',Inv X pins bI H' s7/\tn i s7.heap/\(∀b∈fp,H' b=none)/\W i m bI H':=λ{lP H7} I7 n7=>by
   obtain⟨m',hm,w7⟩:=hN lP H7 n7;refine⟨m',hm,i+1,lP,H7,I7.Bf,T.keep _ _ _ kj λb hb o e=>(I7.pin (b,o) (aU _ (aU _ (N8 hb e)))).1,λb hb=>?_,w7⟩;obtain⟨o,e,d⟩:=T.obj _ _ kj b hb;exact(I7.pin (b,o) (aU _ (aU _ (N8 hb e)))).2.1
  cases f with
  |next=>obtain⟨lP,H7,I7,n7⟩:=q7;exact again I7 n7
  |cont=>obtain⟨lP,H7,I7,n7⟩:=q7;exact again I7 n7
  |brk=>obtain⟨lP,H7,I7,q7⟩:=q7;exact⟨lP,H7,I7.Bf,q7⟩
  |ret v=>obtain⟨x7,lP,H7,I7,r7,q7⟩:=q7;exact⟨x7,lP,H7,I7.Bf,r7,q7⟩
noncomputable abbrev R2:=V->V->Hp->VK->Prop
def fu(X:Cx)(f:Value->Value->Sem Value)(r:R2):Prop :=
 ∀(pins:List (Addr×Obj)) (s:Shared) (Z:St) (H:Hp) (x y:V) (v u:Value) (Q:VK),Inv X pins Z H s->RelV x v->RelV y u->r x y H Q ->
  wpAny (model X.prog X.w) X.A (f v u) (EP X pins Z Q) X.xe s
def xR(X:Cx)(f:Value->Sem Value)(r:V->Hp->VK->Prop):Prop :=
 ∀(pins:List (Addr×Obj)) (s:Shared) (Z:St) (H:Hp) (x:V) (v:Value) (Q:VK),Inv X pins Z H s->RelV x v->r x H Q ->
  wpAny (model X.prog X.w) X.A (f v) (EP X pins Z Q) X.xe s
def m7(X:Cx)(f:Value)(r:List V->Hp->VK->Prop):Prop :=
 ∀(pins:List (Addr×Obj)) (s:Shared) (Z:St) (H:Hp) (xs:List V) (us:List Value) (Q:VK),Inv X pins Z H s->Vals xs us->r xs H Q ->
  wpAny (model X.prog X.w) X.A (call f us) (EP X pins Z Q) X.xe s
def Wh(X:Cx)(r:V->Hp->(Bool->Hp->Prop)->Prop):Prop :=
 ∀(pins:List (Addr×Obj)) (s:Shared) (Z:St) (H:Hp) (x:V) (v:Value) (Q:Bool->Hp->Prop),Inv X pins Z H s->RelV x v->r x H Q ->
  wpAny (model X.prog X.w) X.A (truthy v) (TP X pins Z Q) X.xe s
def oB(r:R2)(ta tb:TE):TE:=λZ H Q=>ta Z H λx H1=>tb Z H1 λy H2=>r x y H2 Q
def Jt(r:V->Hp->VK->Prop)(ta:TE):TE:=λZ H Q=>ta Z H λx H1=>r x H1 Q
def rI(C:Int->Int->Prop)(g:Int->Int->V):R2:=λx y H Q=>∃i j,x=.int i/\y=.int j/\C i j/\Q (g i j) H
def lH(g:Int->Int->V):R2:=λx y H Q=>∃i j,x=.int i/\y=.int j/\Q (g i j) H
def rU(g:Int->V):V->Hp->VK->Prop:=λx H Q=>∃i,x=.int i/\Q (g i) H
section
variable{a b:Expr}
theorem Au(ha:PE X a ta)(hb:PE X b tb){R:V->V->Hp->Prop}(I:Inv X pins Z H s)(h:ta Z H λx H1=>tb Z H1 λy H2=>R x y H2){f:Value->Value->Sem Value}(hf:∀v u s2 x y H2,Inv X pins Z H2 s2->RelV x v->RelV y u->R x y H2->wpAny (model X.prog X.w) X.A (f v u) Q X.xe s2) :
  wpAny (model X.prog X.w) X.A (eval a X.env) (λv bC=>wpAny (model X.prog X.w) X.A (eval b X.env) (λu fb=>wpAny (model X.prog X.w) X.A (f v u) Q X.xe fb) X.xe bC) X.xe s:=by
 refine bZ (ha pins s Z H _ I h) λv s1 aT=>?_;obtain⟨x,H1,I1,r1,q1⟩:=aT;refine bZ (hb pins s1 Z H1 _ I1 q1) λu s2 aT=>?_;obtain⟨y,H2,I2,r2,q2⟩:=aT;exact hf v u s2 x y H2 I2 r1 r2 q2
theorem TM{op:Operator}(ho:fu X (binaryOp op) r)(ha:PE X a ta)(hb:PE X b tb):PE X (.BinOp a op b pos) (oB r ta tb):=by
 intro pins s Z H Q I h;exact wpAny_BinOp (Au ha hb I h λv u s2 x y H2 I2 rx ry q=>ho pins s2 Z H2 x y v u Q I2 rx ry q)
theorem TQ{op:UnaryOp}{r:V->Hp->VK->Prop}(ho:xR X (unaryOp op) r)(ha:PE X a ta):PE X (.UnaryOp op a pos) (Jt r ta):=by
 intro pins s Z H Q I h;exact UnaryOp_ (bZ (ha pins s Z H _ I h) λv s1 ⟨x,H1,I1,r1,q1⟩=>ho pins s1 Z H1 x v Q I1 r1 q1)
theorem sT{f:Value->Value->Sem Value}{C:Int->Int->Prop}{g:Int->Int->Int}(rule:∀(i j:Int) (t u:Tok) (s:Shared) (Q:Value->Shared->Prop) (E:Value->Shared->Prop),C i j->Q (.int (g i j) s.toks) { s with toks:=s.toks+1 }->wpAny (model X.prog X.w) X.A (f (.int i t) (.int j u)) Q E s) :
  fu X f (rI C λi j=>.int (g i j)):=by
 intro pins s Z H x y v u Q I rx ry h;obtain⟨i,j,rfl,rfl,hc,q⟩:=h;obtain⟨t,rfl⟩:=rx;obtain⟨t',rfl⟩:=ry;exact rule i j t t' s _ _ hc ⟨.int (g i j),H,I.tok _,⟨_,rfl⟩,q⟩
theorem rS{f:Value->Value->Sem Value}{g:Int->Int->Int}(rule:∀(i j:Int) (t u:Tok) (s:Shared) (Q:Value->Shared->Prop) (E:Value->Shared->Prop),Q (.int (g i j) s.toks) { s with toks:=s.toks+1 }->wpAny (model X.prog X.w) X.A (f (.int i t) (.int j u)) Q E s) :
  fu X f (lH λi j=>.int (g i j)):=by
 intro pins s Z H x y v u Q I rx ry h;obtain⟨i,j,rfl,rfl,q⟩:=h;obtain⟨t,rfl⟩:=rx;obtain⟨t',rfl⟩:=ry;exact rule i j t t' s _ _ ⟨.int (g i j),H,I.tok _,⟨_,rfl⟩,q⟩
theorem xy{f:Value->Value->Sem Value}{g:Int->Int->Bool}(rule:∀(i j:Int) (t u:Tok) (s:Shared) (Q:Value->Shared->Prop) (E:Value->Shared->Prop),Q (.bool (g i j)) s->wpAny (model X.prog X.w) X.A (f (.int i t) (.int j u)) Q E s) :
  fu X f (lH λi j=>.bl (g i j)):=by
 intro pins s Z H x y v u Q I rx ry h;obtain⟨i,j,rfl,rfl,q⟩:=h;obtain⟨t,rfl⟩:=rx;obtain⟨t',rfl⟩:=ry;exact rule i j t t' s _ _ ⟨.bl (g i j),H,I,rfl,q⟩
def Ao(i j:Int):Prop:=0<j/\j<1073741824
def nU(i j:Int):Prop:=0<=j/\j<=1000000/\i.natAbs<2 ^ 64
def qt(i j:Int):Prop:=(-(2 ^ 64)<i/\i<2 ^ 64)\/(-(2 ^ 64)<j/\j<2 ^ 64)
theorem qt.ok{i j:Int}(h:qt i j):IntMulOk i j:=by
 rcases h with⟨h1,h2⟩|⟨h1,h2⟩
 ·exact .of_left (intBits_le_64 h1 h2)
 ·exact .of_right (intBits_le_64 h1 h2)
theorem Vr:fu X (binaryOp .Add) (lH λi j=>.int (i+j)):=rS λ_ _ _ _ _ _ _ q=>add_int q
theorem VB:fu X (binaryOp .Sub) (lH λi j=>.int (i-j)):=rS λ_ _ _ _ _ _ _ q=>sub_int q
theorem Vx:fu X (binaryOp .Mult) (rI qt λi j=>.int (i*j)):=sT λ_ _ _ _ _ _ _ hc q=>mul_int q hc.ok
theorem NT:fu X (binaryOp .FloorDiv) (rI Ao λi j=>.int (i / j)):=sT λi j _ _ _ _ _ hc q=>by
 have h1:(0:Int)<j:=hc.1;have h2:j<1073741824:=hc.2;exact floordiv_int (by omega) (by rw[Int.fdiv_eq_ediv_of_nonneg i (by omega)];exact q) (.inl (PyProof.noPylong_small (by omega)))
theorem Vw:fu X (binaryOp .Mod) (rI (λ_ j=>0<j) λi j=>.int (i % j)):=sT λi j _ _ _ _ _ hc q=>by
 have h1:(0:Int)<j:=hc;exact mod_int' (by omega) (by rw[Int.fmod_eq_emod_of_nonneg i (by omega)];exact q)
theorem Vy:fu X (binaryOp .Pow) (rI nU λi j=>.int (i ^ j.toNat)):=sT λ_ _ _ _ _ _ _ hc q=>pow_int_small hc.1 hc.2.1 hc.2.2 q
theorem VA:fu X (binaryOp .LShift) (rI nU λi j=>.int (i*2 ^ j.toNat)):=sT λ_ _ _ _ _ _ _ hc q=>lshift_int_small hc.1 hc.2.1 hc.2.2 q
theorem Vs:fu X (binaryOp .BitAnd) (lH λi j=>.int (Builtin.bitAnd i j)):=rS λ_ _ _ _ _ _ _ q=>and_int q
theorem TF:fu X (binaryOp .BitOr) (lH λi j=>.int (Builtin.bitOr i j)):=rS λ_ _ _ _ _ _ _ q=>or_int q
theorem Nv:fu X (inplaceOp .Add) (lH λi j=>.int (i+j)):=rS λ_ _ _ _ _ _ _ q=>iadd_int q
theorem Nw:fu X (inplaceOp .Sub) (lH λi j=>.int (i-j)):=rS λ_ _ _ _ _ _ _ q=>isub_int q
theorem Js{f:Value->Sem Value}{g:Int->Int}(rule:∀(i:Int) (t:Tok) (s:Shared) (Q:Value->Shared->Prop) (E:Value->Shared->Prop),Q (.int (g i) s.toks) { s with toks:=s.toks+1 }->wpAny (model X.prog X.w) X.A (f (.int i t)) Q E s) :
  xR X f (rU λi=>.int (g i)):=by
 intro pins s Z H x v Q I rx h;obtain⟨i,rfl,q⟩:=h;obtain⟨t,rfl⟩:=rx;exact rule i t s _ _ ⟨.int (g i),H,I.tok _,⟨_,rfl⟩,q⟩
theorem MR:xR X (unaryOp .USub) (rU λi=>.int (-i)):=Js λ_ _ _ _ _ q=>neg_int q
end
def Eu:V->V->Bool
 |.bf,.bf=>true|.bf,.int _=>true|.int _,.bf=>true|.bf,.bl _=>true|.bl _,.bf=>true|.bf,.str _=>true|.str _,.bf=>true
 |.int _,.int _=>true|.bl _,.bl _=>true|.str _,.str _=>true|.kM _,.kM _=>true
 |.int _,.str _=>true|.str _,.int _=>true|.bl _,.str _=>true|.str _,.bl _=>true
 |_,_=>false
def JH:R2:=λx y H Q=>Eu x y=true/\Q (.bl (decide (x=y))) H
def JG:R2:=λx y H Q=>Eu x y=true/\Q (.bl (!decide (x=y))) H
theorem wU{i j:Int}:decide (V.int i=V.int j)=(i==j):=by
 rw[bG];simp
theorem wF{i j:Bool}:decide (V.bl i=V.bl j)=(i==j):=by
 rw[bG];simp
theorem wV{i j:Str}:decide (V.str i=V.str j)=(i==j):=by
 rw[bG];simp
theorem Hx{i j:Array UInt8}:decide (V.kM i=V.kM j)=(i.toList==j.toList):=by
 rw[bG];cases i;cases j;simp
section
variable{a b:Expr}{tc:TE}
theorem k6{Q:VK}{k k':Bool}(I:Inv X pins Z H s)(q:Q (.bl k) H)(e:k=k'):EP X pins Z Q (.bool k') s:=by
 subst e;exact⟨.bl k,H,I,rfl,q⟩
theorem BS:fu X (compareOp .Eq) JH:=by
 intro pins s Z H x y v u Q I rx ry h;obtain⟨hs,q⟩:=h;cases x with
 |bf =>
  cases rx;cases y with
  |bf=>cases ry;exact PySem.EqNone.eq_none_none (k6 I q (by simp))
  |bl j=>cases ry;exact PySem.EqNone.eq_none_bool (k6 I q (by simp))
  |int j=>obtain⟨t',rfl⟩:=ry;exact PySem.EqNone.eq_none_int (k6 I q (by simp))
  |str j=>obtain⟨t',rfl⟩:=ry;exact PySem.EqNone.eq_none_str (k6 I q (by simp))
  |_=>exact absurd (show false=true from hs) Bool.false_ne_true
 |bl i =>
  cases rx;cases y with
  |bf=>cases ry;exact PySem.EqNone.eq_bool_none (k6 I q (by simp))
  |bl j=>cases ry;exact eq_bool (k6 I q wF)
  |str j=>obtain⟨t',rfl⟩:=ry;exact PySem.EqMixed.eq_bool_str (k6 I q (by simp))
  |_=>exact absurd (show false=true from hs) Bool.false_ne_true
 |int i =>
  obtain⟨t,rfl⟩:=rx;cases y with
  |bf=>cases ry;exact PySem.EqNone.eq_int_none (k6 I q (by simp))
  |int j=>obtain⟨t',rfl⟩:=ry;exact eq_int (k6 I q wU)
  |str j=>obtain⟨t',rfl⟩:=ry;exact PySem.EqMixed.eq_int_str (k6 I q (by simp))
  |_=>exact absurd (show false=true from hs) Bool.false_ne_true
 |str i =>
  obtain⟨t,rfl⟩:=rx;cases y with
  |bf=>cases ry;exact PySem.EqNone.eq_str_none (k6 I q (by simp))
  |bl j=>cases ry;exact PySem.EqMixed.eq_str_bool (k6 I q (by simp))
  |int j=>obtain⟨t',rfl⟩:=ry;exact PySem.EqMixed.eq_str_int (k6 I q (by simp))
  |str j=>obtain⟨t',rfl⟩:=ry;exact eq_str (k6 I q wV)
  |_=>exact absurd (show false=true from hs) Bool.false_ne_true
 |kM i =>
  obtain⟨t,rfl⟩:=rx;cases y with
  |kM j=>obtain⟨t',rfl⟩:=ry;exact PySem.W.eq_bytes (k6 I q Hx)
  |_=>exact absurd (show false=true from hs) Bool.false_ne_true
 |_=>cases y<;>exact absurd (show false=true from hs) bA
theorem BU:fu X (compareOp .NotEq) JG:=by
 intro pins s Z H x y v u Q I rx ry h;obtain⟨hs,q⟩:=h;cases x with
 |bf =>
  cases rx;cases y with
  |bf=>cases ry;exact PySem.EqNone.ne_none_none (k6 I q (by simp))
  |bl j=>cases ry;exact PySem.EqNone.ne_none_bool (k6 I q (by simp))
  |int j=>obtain⟨t',rfl⟩:=ry;exact PySem.EqNone.ne_none_int (k6 I q (by simp))
  |str j=>obtain⟨t',rfl⟩:=ry;exact PySem.EqNone.ne_none_str (k6 I q (by simp))
  |_=>exact absurd (show false=true from hs) Bool.false_ne_true
 |bl i =>
  cases rx;cases y with
  |bf=>cases ry;exact PySem.EqNone.ne_bool_none (k6 I q (by simp))
  |bl j=>cases ry;exact ne_bool (k6 I q (congrArg not wF))
  |str j=>obtain⟨t',rfl⟩:=ry;exact PySem.EqMixed.ne_bool_str (k6 I q (by simp))
  |_=>exact absurd (show false=true from hs) Bool.false_ne_true
 |int i =>
  obtain⟨t,rfl⟩:=rx;cases y with
  |bf=>cases ry;exact PySem.EqNone.ne_int_none (k6 I q (by simp))
  |int j=>obtain⟨t',rfl⟩:=ry;exact ne_int (k6 I q (congrArg not wU))
  |str j=>obtain⟨t',rfl⟩:=ry;exact PySem.EqMixed.ne_int_str (k6 I q (by simp))
  |_=>exact absurd (show false=true from hs) Bool.false_ne_true
 |str i =>
  obtain⟨t,rfl⟩:=rx;cases y with
  |bf=>cases ry;exact PySem.EqNone.ne_str_none (k6 I q (by simp))
  |bl j=>cases ry;exact PySem.EqMixed.ne_str_bool (k6 I q (by simp))
  |int j=>obtain⟨t',rfl⟩:=ry;exact PySem.EqMixed.ne_str_int (k6 I q (by simp))
  |str j=>obtain⟨t',rfl⟩:=ry;exact ne_str (k6 I q (congrArg not wV))
  |_=>exact absurd (show false=true from hs) Bool.false_ne_true
 |kM i =>
  obtain⟨t,rfl⟩:=rx;cases y with
  |kM j=>obtain⟨t',rfl⟩:=ry;exact PySem.W.ne_bytes (k6 I q (congrArg not Hx))
  |_=>exact absurd (show false=true from hs) Bool.false_ne_true
 |_=>cases y<;>exact absurd (show false=true from hs) bA
theorem TB:fu X (compareOp .Lt) (lH λi j=>.bl (decide (i<j))):=xy λ_ _ _ _ _ _ _ q=>lt_int q
theorem Tz:fu X (compareOp .LtE) (lH λi j=>.bl (decide (i<=j))):=xy λ_ _ _ _ _ _ _ q=>le_int q
theorem Tx:fu X (compareOp .Gt) (lH λi j=>.bl (decide (j<i))):=xy λ_ _ _ _ _ _ _ q=>gt_int q
theorem Tw:fu X (compareOp .GtE) (lH λi j=>.bl (decide (j<=i))):=xy λ_ _ _ _ _ _ _ q=>ge_int q
theorem Vv:fu X (compareOp .Is) (λx y H Q=>y=.bf/\Q (.bl (decide (x=.bf))) H):=by
 intro pins s Z H x y v u Q I rx ry h;obtain⟨rfl,q⟩:=h;cases ry;refine is_none_gen (k6 I q ?_);cases x<;>first
  |(cases rx;rfl)
  |(obtain⟨t,rfl⟩:=rx;rfl)
theorem NU:fu X (compareOp .IsNot) (λx y H Q=>y=.bf/\Q (.bl (!decide (x=.bf))) H):=by
 intro pins s Z H x y v u Q I rx ry h;obtain⟨rfl,q⟩:=h;cases ry;refine isnot_none_gen (k6 I q ?_);cases x<;>first
  |(cases rx;rfl)
  |(obtain⟨t,rfl⟩:=rx;rfl)
theorem HM(ho:fu X (compareOp op) r)(ha:PE X a ta)(hb:PE X b tb)(hm:behindInMarks op b=false):PE X (.Compare a [op] [b] pos) (oB r ta tb):=by
 intro pins s Z H Q I h;exact wpAny_Compare1 (Au ha hb I h λv u s2 x y H2 I2 rx ry q=>ho pins s2 Z H2 x y v u Q I2 rx ry q) hm
def uV(t:TE):TT:=λZ H Q=>t Z H λx H'=>∃k,x=.bl k/\Q k H'
theorem AO(ho:fu X (compareOp op) r)(ha:PE X a ta)(hb:PE X b tb)(hm:behindInMarks op b=false):PT X (.Compare a [op] [b] pos) (uV (oB r ta tb)):=by
 intro pins s Z H Q I h;refine wpAny_isTrue_Compare1 (bZ (ha pins s Z H _ I h) λv s1 ⟨x,H1,I1,r1,q1⟩=>bZ (hb pins s1 Z H1 _ I1 q1) λu s2 ⟨y,H2,I2,r2,q2⟩ =>
  bZ (ho pins s2 Z H2 x y v u _ I2 r1 r2 q2) λc s3 ⟨z,H3,I3,r3,k,e,q3⟩=>?_) hm
 subst e;cases r3;exact cx ⟨H3,I3,q3⟩
def Co(r r':R2)(ta tb tc:TE):TE:=λZ H Q=>ta Z H λx H1=>tb Z H1 λy H2=>r x y H2 λz H3=>∃k,z=.bl k /\
 (if k=true then tc Z H3 λw' H4=>r' y w' H4 Q else Q (.bl false) H3)
theorem Qt{ia:CmpOp}{r':R2}(ho:fu X (compareOp op) r)(mr:fu X (compareOp ia) r')(ha:PE X a ta)(hb:PE X b tb)(hc:PE X c tc)(hm:lastMarks [op,ia] [b,c]=false:=by with_unfolding_all rfl):PE X (.Compare a [op,ia] [b,c] pos) (Co r r' ta tb tc):=by
 intro pins s Z H Q I h;refine Compare_chain (bZ (ha pins s Z H _ I h) λv s1 ⟨x,H1,I1,r1,q1⟩=>chain_link (bZ (hb pins s1 Z H1 _ I1 q1) λu s2 ⟨y,H2,I2,r2,q2⟩ =>
  bZ (ho pins s2 Z H2 x y v u _ I2 r1 r2 q2) λd s3 ⟨z,H3,I3,r3,k,e,q3⟩=>?_)) hm
 subst e;cases r3;refine cx ?_;cases k with
 |false=>exact ite_ff ⟨.bl false,H3,I3,rfl,q3⟩
 |true=>exact ite_tt (chain_last (bZ (hc pins s3 Z H3 _ I3 q3) λw' s4 ⟨z',H4,I4,r4,q4⟩=>mr pins s4 Z H4 y z' u w' Q I4 r2 r4 q4))
theorem Zu{ia:CmpOp}{r':R2}(ho:fu X (compareOp op) r)(mr:fu X (compareOp ia) r')(ha:PE X a ta)(hb:PE X b tb)(hc:PE X c tc)(hm:lastMarks [op,ia] [b,c]=false:=by with_unfolding_all rfl):PT X (.Compare a [op,ia] [b,c] pos) (uV (Co r r' ta tb tc)):=by
 intro pins s Z H Q I h;refine isTrue_chain (bZ (ha pins s Z H _ I h) λv s1 ⟨x,H1,I1,r1,q1⟩=>test_link (bZ (hb pins s1 Z H1 _ I1 q1) λu s2 ⟨y,H2,I2,r2,q2⟩ =>
  bZ (ho pins s2 Z H2 x y v u _ I2 r1 r2 q2) λd s3 ⟨z,H3,I3,r3,k,e,q3⟩=>?_)) hm
 subst e;cases r3;refine cx ?_;cases k with
 |false =>
  obtain⟨k',e',q'⟩:=q3;cases e';exact ite_ff ⟨H3,I3,q'⟩
 |true =>
  refine ite_tt (test_last (bZ (hc pins s3 Z H3 _ I3 q3) λw' s4 ⟨z',H4,I4,r4,q4⟩=>bZ (mr pins s4 Z H4 y z' u w' _ I4 r2 r4 q4) λd' s5 aT=>?_));obtain⟨z2,H5,I5,r5,k2,e2,q5⟩:=aT;subst e2;cases r5;exact cx ⟨H5,I5,q5⟩
def As(K:PySem.W.Frag)(x:V)(H:Hp)(k:Bool):Prop :=
 match x with
 |.bf=>k=false
 |.bl b=>k=b
 |.int i=>k=(i != 0)
 |.str y=>y.length<=sizeLine/\k=((y.length:Int) != 0)
 |.kM y=>y.size<=sizeLine/\k=((y.size:Int) != 0)
 |.ref p=>(∃xs,ft K H p xs/\k=!xs.isEmpty)\/(∃xs,gS K H p xs/\k=!xs.isEmpty)\/∃kvs,H p=some (.dK kvs)/\k=!kvs.isEmpty
 |_=>False
theorem Xx{κ:Type}{kvs:List (κ×V)}{vs:List (κ×Value)}(r:KV kvs vs):(!vs.isEmpty)=!kvs.isEmpty:=by
 cases r<;>rfl
theorem GA{aO:List Value}(r:Vals xs aO):(!aO.toArray.isEmpty)=!xs.isEmpty:=by
 cases r<;>simp
theorem V9:(sizeLine:Nat)<2 ^ 63:=by rw[ka];decide
theorem MO:Wh X (λx H Q=>∃k,As X.K x H k/\Q k H):=by
 intro pins s Z H x v Q I rx h;obtain⟨k,e,q⟩:=h;have hl:=V9;have hs:sizeLine=16777216:=ka;cases x with
 |bf =>
  cases rx;have e':k=false:=e;subst e';exact truthy_none ⟨H,I,q⟩
 |bl b =>
  cases rx;have e':k=b:=e;subst e';exact cx ⟨H,I,q⟩
 |int i =>
  obtain⟨t,rfl⟩:=rx;have e':k=(i != 0):=e;subst e';exact PySem.P.truthy_int ⟨H,I,q⟩
 |str y =>
  obtain⟨t,rfl⟩:=rx;obtain⟨hy,e'⟩:y.length<=sizeLine/\k=((y.length:Int) != 0):=e;subst e';exact PySem.P.truthy_str (by omega) ⟨H,I.tok _,q⟩
 |kM y =>
  obtain⟨t,rfl⟩:=rx;obtain⟨hy,e'⟩:y.size<=sizeLine/\k=((y.size:Int) != 0):=e;subst e';exact PySem.W.truthy_bytes (by omega) ⟨H,I.tok _,q⟩
 |ref p =>
  cases rx;have e':(∃xs,ft X.K H p xs/\k=!xs.isEmpty)\/(∃xs,gS X.K H p xs/\k=!xs.isEmpty)\/∃kvs,H p=some (.dK kvs)/\k=!kvs.isEmpty:=e;rcases e' with⟨xs,hx,e'⟩|⟨xs,hx,e'⟩|⟨kvs,hx,e'⟩
  ·subst e';obtain⟨aO,r,pl,hz⟩:=I.list hx;have hlen:=r.length;exact wpAny_truthy_list pl.isList (by simp only[List.size_toArray];omega) ⟨H,I.tok _,by rw[GA r];exact q⟩
  ·subst e';obtain⟨aO,r,pl,hz⟩:=I.tuple hx;have hlen:=r.length;exact truthy_tuple pl (by simp only[List.size_toArray];omega) ⟨H,I.tok _,by rw[GA r];exact q⟩
  ·subst e';obtain⟨hz,hS,vs,r,m⟩:kvs.length<=sizeLine/\(p==sysModules)=false/\∃vs,KV kvs vs/\s.heap.DictOf (i8 X.prog X.w) p vs:=I.bw p _ hx;have hlen:kvs.length=vs.length:=lE r;exact wpAny_truthy_dict hS m (by omega) ⟨H,I.tok _,by rw[Xx r];exact q⟩
 |_=>exact(show False from e).elim
theorem Zv(ha:PE X a ta)(he:∀whole,isTrue a X.env whole=(do let v <- whole;standAt a.pos;holding [v] (truthy v))) :
  PT X a (λZ H Q=>ta Z H λx H'=>∃k,As X.K x H' k/\Q k H'):=by
 intro pins s Z H Q I h;exact isTrue_plain (bZ (ha pins s Z H _ I h) λv s1 ⟨x,H1,I1,r1,q1⟩=>MO pins s1 Z H1 x v Q I1 r1 q1) (he _)
theorem XQ:fu X (binaryOp .Add) (λx y H Q=>∃i j,x=.str i/\y=.str j/\i.length+j.length<=sizeLine/\Q (.str (i++j)) H):=by
 intro pins s Z H x y v u Q I rx ry h;obtain⟨i,j,rfl,rfl,hz,q⟩:=h;obtain⟨t,rfl⟩:=rx;obtain⟨t',rfl⟩:=ry;exact add_str (λt' tk=>⟨.str (i++j),H,I.tok _,⟨_,rfl⟩,q⟩) hz
theorem vals1{x:V}(r:Vals [x] us):∃u,us=[u]/\RelV x u:=by
 cases r with
 |cons r1 r2=>cases r2;exact⟨_,rfl,r1⟩
theorem vals2{x y:V}(r:Vals [x,y] us):∃u w',us=[u,w']/\RelV x u/\RelV y w':=by
 cases r with
 |cons r1 r2 =>
  cases r2 with
  |cons r3 r4=>cases r4;exact⟨_,_,rfl,r1,r3⟩
theorem FP:m7 X (.type "int") (λxs H Q=>(∃i,xs=[.int i]/\Q (.int i) H)\/∃k,xs=[.bl k]/\Q (.int (if k then 1 else 0)) H):=by
 intro pins s Z H xs us Q I r h;rcases h with⟨i,rfl,q⟩|⟨k,rfl,q⟩
 ·obtain⟨u,rfl,t,rfl⟩:=vals1 r;exact call_int_int ⟨.int i,H,I,⟨_,rfl⟩,q⟩
 ·obtain⟨u,rfl,r1⟩:=vals1 r;cases r1;exact call_int_bool ⟨.int (if k then 1 else 0),H,I.tok _,⟨_,rfl⟩,q⟩
end
structure qv(h:Heap)(x dx C:Addr)(mA:Str->Option Value):Prop where
 obj:h.get? x=some (PySem.W.instObj C dx)
 ns:h.Ns1 dx mA
 ne:dx≠x
theorem Ge{mA:Str->Option Value}(n:h.Ns1 dx mA):∃od,h.get? dx=some od/\∀name,PySem.W.lookIn name od=some (mA name):=by
 obtain⟨o,es,ep,ho,hd,hk,_,hm⟩:=n;refine⟨o,ho,λname=>?_⟩;have e:=hm name;unfold nsFind findBy at e;rw[<- Array.find?_toList] at e;unfold PySem.W.lookIn;rw[hd];dsimp only;split
 ·rename_i y q;rw[q] at e;exact dE some e
 ·rename_i q;rw[q] at e;have a:es.toList.any (·.refKey)=false:=by
   rw[List.any_eq_false];intro y hy;obtain⟨z,t,lj⟩:=hk y (Array.mem_toList_iff.mp hy);simp[DictEntry.refKey,lj]
  have a':¬es.toList.any (·.refKey)=true:=by rw[a];exact bA
  rw[az a'];exact dE some e
theorem qv.look{x:Addr}{mA:Str->Option Value}(I:qv h x dx C mA):∃od,PySem.W.InstAt h x (PySem.W.instObj C dx) C (some od)/\∀name,PySem.W.lookIn name od=some (mA name) :=
 let ⟨od,ho,hl⟩:=Ge I.ns
 ⟨od,⟨I.obj,rfl,rfl,ho⟩,hl⟩
section
variable{prog:Program}{x:Addr}{mA:Str->Option Value}{name:Str}{v:Value}
theorem get_map{expr:Bool}(X:K.In s.heap)(I:qv s.heap x dx C mA)(hg:PySem.W.plainGet K C name=true)(hh:PySem.W.hasDictIn K C=true)(ha:PySem.W.findIn K (.ref C) name=some none)(hv:mA name=some v)(tE:PySem.W.handedIn v=true)(h:Q v { s with toks:=s.toks+1 }) :
  wpAny (model prog w) A (getAttr (.ref x) name expr) Q E s:=by
 obtain⟨od,J,hl⟩:=I.look;exact PySem.W.get_value X J (jg hg).1 (PySem.W.findObj_own hh ha rfl (by rw[hl,hv])) tE h
theorem PV{pl:Sem Bool}{Q:Value×List Value->Shared->Prop}(X:K.In s.heap)(I:qv s.heap x dx C mA)(hg:PySem.W.plainGet K C name=true)(hf:PySem.W.findIn K (.ref C) name=some (some (.ref f)))(ht:PySem.W.isFn K (.ref f)=true)(hv:mA name=none)(h:Q (.ref f,[.ref x]) s) :
  wpAny (model prog w) A (getMethod (.ref x) name pl) Q E s:=by
 obtain⟨od,J,hl⟩:=I.look;exact PySem.W.method_fn X J (jg hg).1 (jg hg).2 hf (gc.mp ht) (by show(PySem.W.lookIn name od).map (·.isSome)=some false;rw[hl,hv];rfl) h
theorem OL{ns:List Str}{Q:Unit->Shared->Prop}(X:K.In s.heap)(I:qv s.heap x dx C mA)(hs:PySem.W.findIn K (.ref C) "__setattr__"=some (some (.builtin "object.__setattr__")))(hp:PySem.W.plainOver K C=true)(ht:PySem.W.takerIn K C name=some none)(hh:PySem.W.hasDictIn K C=true)(hw:PySem.Within mA ns)(hsz:ns.length<=sizeLine)(h:∀h',qv h' x dx C (λy=>if y=name then some v else mA y)->Heap.SameBut dx s.heap h'->Q () { s with heap:=h',toks:=s.toks+2 }) :
  wpAny (model prog w) A (setAttr (.ref x) name v) Q E s:=by
 obtain⟨od,J,hl⟩:=I.look;refine PySem.W.set_plain X J hs (PySem.W.osa_open (s:={ s with toks:=s.toks+1 }) (r:=none) X J hp ht λb=>?_);obtain⟨cd,hc,wg⟩:=PySem.W.any_some hh;have hx:s.heap.get? x=some ⟨.ref C,some dx,.plain,#[]⟩:=I.obj;refine aa (ai (aa (aa (wpAny_loadPart hx (aa (PySem.W.Looks.here (s:={ s with toks:=s.toks+1 }) (PySem.W.looks_clsIn X hc) ?_))))));rw[wg];refine ai (a:=some dx) (aa (ai (aa ?_)));refine wpAny_nsSet1 (s:={ s with toks:=s.toks+1 }) I.ns λh' nL gZ=>?_;obtain⟨oD,esD,epD,Kt,KS,KW⟩:=nL.count (PySem.Within.cons name v hw);refine aa (wpAny_lookBehind Kt (by rw[KS];exact pastItsLine_dict (aJ KW (by rw[cM];omega))) ?_);exact ai (h _ ⟨(gZ.2 _ (aZ I.ne)).trans I.obj,nL,I.ne⟩ gZ)
theorem Qk{R:Result->Shared->Prop}{vs:List Value}{kw:List (Str×Value)}(X:K.In s.heap)(hm:PySem.W.makesIn K C=true)(hi:PySem.W.findIn K (.ref C) "__init__"=some (some (.ref f)))(hf:PySem.W.typeIn K (.ref f)=some (.type "function"))(h:codeAny (model prog w) (A.under (.builtin "type.__call__" ⟨.ref C :: vs,kw⟩)) (.call (.ref f) ⟨.ref (s.heap.objs.size + 1) :: vs,kw⟩) (PySem.W.InitBack (s.heap.objs.size + 1) R)
   { s with heap:=(s.heap.push PySem.W.emptyDict).push (PySem.W.instObj C s.heap.objs.size) }) :
  codeAny (model prog w) A (.call (.ref C) ⟨vs,kw⟩) R s:=by
 obtain⟨hh,g,d,t,os⟩:=s;exact PySem.W.make_core (PySem.W.makes_of X hm) (PySem.W.looks_findIn X hi) (λself=>PySem.W.bind_fn X self hf) (.inl rfl) h
end
def u4(f:Str)(v:V):List (Str×V)->List (Str×V)
 |[]=>[(f,v)]
 |(g,x)::r=>if g=f then(g,v)::r else(g,x)::u4 f v r
theorem GO(f g:Str)(v:V):∀fs:List (Str×V),(u4 f v fs).lookup g=if g=f then some v else fs.lookup g
 |[]=>by
  show List.lookup g [(f,v)]=_;by_cases h:g=f
  ·have hb:(g==f)=true:=gc.mpr h;simp only[List.lookup,hb,if_pos h]
  ·have hb:(g==f)=false:=dh.mpr h;simp only[List.lookup,hb,if_neg h]
 |(k,x)::r=>by
  have ih:=GO f g v r;rw[show u4 f v ((k,x)::r)=(if k=f then(k,v)::r else(k,x)::u4 f v r) from rfl];by_cases hk:k=f
  ·rw[aG hk];by_cases h:g=k
   ·have hb:(g==k)=true:=gc.mpr h;simp only[List.lookup,hb,if_pos (h.trans hk)]
   ·have hb:(g==k)=false:=dh.mpr h;simp only[List.lookup,hb,if_neg (λe:g=f=>h (e.trans hk.symm))]
  ·rw[az hk];by_cases h:g=k
   ·have hb:(g==k)=true:=gc.mpr h;simp only[List.lookup,hb,if_neg (λe:g=f=>hk (h.symm.trans e))]
   ·have hb:(g==k)=false:=dh.mpr h;simp only[List.lookup,hb];exact ih
theorem Bk(f:Str)(v:V):∀fs:List (Str×V),f∈(u4 f v fs).map (·.1)/\∀g,g∈fs.map (·.1)->g∈(u4 f v fs).map (·.1)
 |[]=>⟨by simp[u4],λg h=>by simp at h⟩
 |(k,x)::r=>by
  obtain⟨i1,i2⟩:=Bk f v r;rw[show u4 f v ((k,x)::r)=(if k=f then(k,v)::r else(k,x)::u4 f v r) from rfl];by_cases hk:k=f
  ·rw[aG hk];subst hk;exact⟨by simp,λg h=>by simpa using h⟩
  ·rw[az hk];refine⟨?_,λg h=>?_⟩
   ·rw[bc];exact bQ _ i1
   ·rw[bc] at h ⊢;rcases ay.mp h with e|e
    ·exact ay.mpr (.inl e)
    ·exact bQ _ (i2 g e)
theorem GN(f:Str)(v:V):∀fs:List (Str×V),(u4 f v fs).length<=fs.length+1
 |[]=>by simp[u4]
 |(k,x)::r=>by
  have ih:=GN f v r;rw[show u4 f v ((k,x)::r)=(if k=f then(k,v)::r else(k,x)::u4 f v r) from rfl];by_cases hk:k=f
  ·rw[aG hk,cM,cM];omega
  ·rw[az hk,cM,cM];omega
theorem E1.some_of{o:Option Value}(r:E1 (some v) o):∃u,o=some u/\RelV v u:=by
 cases o with
 |none=>exact(show False from r).elim
 |some u=>exact⟨u,rfl,r⟩
theorem E1.none_of{o:Option Value}(r:E1 none o):o=none:=by
 cases o with
 |none=>rfl
 |some u=>exact(show False from r).elim
theorem a34(r:RelV v u):PySem.W.handedIn u=true:=by
 cases v with
 |bf=>cases (show u=Value.none from r);rfl
 |bl b=>cases (show u=Value.bool b from r);rfl
 |int i=>obtain⟨t,e⟩:=(show ∃t,u=Value.int i t from r);cases e;rfl
 |str x=>obtain⟨t,e⟩:=(show ∃t,u=Value.str x t from r);cases e;rfl
 |kM b=>obtain⟨t,e⟩:=(show ∃t,u=Value.bytes b t from r);cases e;rfl
 |qj b=>obtain⟨t,e⟩:=(show ∃t,u=Value.float b t from r);cases e;rfl
 |ref a=>cases (show u=Value.ref a from r);rfl
 |ty n=>cases (show u=Value.type n from r);rfl
section
variable{fs:List (Str×V)}
theorem wY(bw:fR P w H h)(e:H a=some (.ins C dx fs)):∃mA,qv h a dx C mA/\(∀f,E1 (fs.lookup f) (mA f))/\PySem.Within mA (fs.map (·.1))/\fs.length<=1000/\H dx=some (.own a):=by
 obtain⟨d,z,ne,ob,mA,n,r,q⟩:=(show m4 P w H h a (.ins C dx fs) from bw a _ e)
 exact⟨mA,⟨ob,n,ne⟩,r,q,z,d⟩
end
structure iQ(K:PySem.W.Frag)(C:Addr):Prop where
 pg:PySem.W.plainGet K C Str.empty=true
 hd:PySem.W.hasDictIn K C=true
 po:PySem.W.plainOver K C=true
 sa:PySem.W.findIn K (.ref C) "__setattr__"=some (some (.builtin "object.__setattr__"))
theorem iQ.get(c:iQ K C)(f:Str):PySem.W.plainGet K C f=true:=c.pg
def w9(K:PySem.W.Frag)(C:Addr)(f:Str):Prop:=PySem.W.findIn K (.ref C) f=some none
theorem w9.Uv{f:Str}(n:w9 K C f):PySem.W.takerIn K C f=some none:=by
 unfold PySem.W.takerIn;rw[show PySem.W.findIn K (.ref C) f=some none from n]
 rfl
structure Meth(K:PySem.W.Frag)(C:Addr)(m:Str)(f:Addr):Prop where
 at_:PySem.W.findIn K (.ref C) m=some (some (.ref f))
 fn:PySem.W.isFn K (.ref f)=true
 kp:PySem.W.keepIn K (.ref f)=true
section
variable{fs:List (Str×V)}{f:Str}
theorem Gy{b:Bool}(I:Inv X pins Z H s)(e:H a=some (.ins C dx fs))(c:iQ X.K C)(n:w9 X.K C f)(l:fs.lookup f=some v)(h:∀u s',Inv X pins Z H s'->RelV v u->Q u s'):wpAny (model X.prog X.w) A (getAttr (.ref a) f b) Q E s:=by
 obtain⟨mA,O,r,_,_,_⟩:=wY I.bw e;obtain⟨u,hu,ru⟩:=E1.some_of (v:=v) (o:=mA f) (by rw[<- l];exact r f);exact get_map I.fU O (c.get f) c.hd n hu (a34 ru) (h u _ (I.tok _) ru)
theorem Gz{g:Addr}{pl:Sem Bool}{Q:Value×List Value->Shared->Prop}(I:Inv X pins Z H s)(e:H a=some (.ins C dx fs))(c:iQ X.K C)(k:Meth X.K C m g)(l:fs.lookup m=none)(h:Q (.ref g,[.ref a]) s):wpAny (model X.prog X.w) A (getMethod (.ref a) m pl) Q E s:=by
 obtain⟨mA,O,r,_,_,_⟩:=wY I.bw e;have hn:mA m=none:=E1.none_of (by rw[<- l];exact r m);exact PV I.fU O (c.get m) k.at_ k.fn hn h
theorem GD{y:V}{Q:Unit->Shared->Prop}(I:Inv X pins Z H s)(e:H a=some (.ins C dx fs))(c:iQ X.K C)(n:w9 X.K C f)(hl:fs.length<1000)(ry:RelV y u)(h:∀s',Inv X pins Z (upd H a (.ins C dx (u4 f y fs))) s'->Q () s'):wpAny (model X.prog X.w) A (setAttr (.ref a) f u) Q E s:=by
 obtain⟨mA,O,r,wi,_,ho⟩:=wY I.bw e;have hz:(fs.map (·.1)).length<=sizeLine:=by rw[ao,ka];omega
 refine OL I.fU O c.sa c.po n.Uv c.hd wi hz λh' O' sb=>h _ ?_;have hd:∃o,h'.get? dx=some o:=let ⟨o,_,_,e',_⟩:=O'.ns;⟨o,e'⟩
 refine I.write (x:=a) (e:=dx) (by rw[e];exact True.intro) (.inr ho) (λb q hb z=>(sb.2 b hb).trans z) hd ?_;refine⟨by rw[d0 O.ne];exact ho,?_,O.ne,O'.obj,_,O'.ns,λg=>?_,λg hg=>?_⟩
 ·have:=GN f y fs;omega
 ·show E1 ((u4 f y fs).lookup g) (if g=f then some u else mA g);rw[GO];by_cases q:g=f
  ·rw[aG q,aG q];exact ry
  ·rw[az q,az q];exact r g
 ·by_cases q:g=f
  ·rw[q];exact(Bk f y fs).1
  ·refine(Bk f y fs).2 g (wi g λz=>hg ?_);show(if g=f then some u else mA g)=none;rw[az q];exact z
theorem Inv.made(I:Inv X pins Z H s):Inv X pins Z (upd (upd H s.heap.objs.size (.own (s.heap.objs.size+1))) (s.heap.objs.size+1) (.ins C s.heap.objs.size []))
  { s with heap:=(s.heap.push PySem.W.emptyDict).push (PySem.W.instObj C s.heap.objs.size) }:=by
 have e1:(s.heap.push PySem.W.emptyDict).get? s.heap.objs.size=some PySem.W.emptyDict:=aw s.heap rfl;have e2:((s.heap.push PySem.W.emptyDict).push (PySem.W.instObj C s.heap.objs.size)).get? (s.heap.objs.size+1)=some (PySem.W.instObj C s.heap.objs.size):=by
  have:=aw (s.heap.push PySem.W.emptyDict) (o:=PySem.W.instObj C s.heap.objs.size) rfl
  rwa [dc] at this
 have e3:(s.heap.push PySem.W.emptyDict).Ns s.heap.objs.size (λ_=>none):=⟨PySem.W.emptyDict,#[],_,e1,rfl,(λe he=>absurd he (by simp)),λ_=>rfl⟩
 have I1:=I.laid (a:=s.heap.objs.size) (o:=.own (s.heap.objs.size+1)) (h':=s.heap.push PySem.W.emptyDict) (t':=s.toks) (λb u q=>ah _ q) (aj _) ⟨_,e1⟩;refine I1.laid (a:=s.heap.objs.size+1) (o:=.ins C s.heap.objs.size []) (t':=s.toks) (λb u q=>ah _ q) (Nat.le_of_eq (dc _ _)) ?_;have ne:s.heap.objs.size≠s.heap.objs.size+1:=aI (dX _);refine⟨by rw[d0 ne,j6],bX _,ne,e2,λ_=>none,(Heap.Ns1.of_empty e3).at λo q=>ah _ q,λ_=>True.intro,λy hy=>absurd rfl hy⟩
theorem Nd{prog:Program}{env:Env}(hb:attributeBase e f env (eval e env)=eval e env)(h:wpAny (model prog w) A (eval e env) (λo bC=>wpAny (model prog w) A (getAttr o f true) Q E bC) E s):wpAny (model prog w) A (eval (.Attribute e f pos) env) Q E s :=
 Attribute_any_ h (by rw[arm_eval_Attribute,hb])
end
def RQ(K:PySem.W.Frag)(ta:TE)(f:Str):TE:=λZ H Q=>ta Z H λx H1=>∃a C dx fs v,x=.ref a/\H1 a=some (.ins C dx fs)/\iQ K C/\w9 K C f/\fs.lookup f=some v/\Q v H1
def RE(K:PySem.W.Frag)(ta tv:TE)(f:Str):TS:=λD Z H=>tv Z H λy H1=>ta Z H1 λx H2=>∃a C dx fs,x=.ref a/\H2 a=some (.ins C dx fs)/\iQ K C/\w9 K C f/\fs.length<1000 /\
 D.nx Z (upd H2 a (.ins C dx (u4 f y fs)))
def Ap(X:Cx)(op:Operator)(rd:V->V->Hp->VK->Prop):Prop :=
 ∀(pins:List (Addr×Obj)) (s:Shared) (Z:St) (H:Hp) (x y:V) (u v:Value) (Q:VK),Inv X pins Z H s->RelV x u->RelV y v->rd x y H Q->wpAny (model X.prog X.w) X.A (inplaceOp op u v) (EP X pins Z Q) X.xe s
def Ox(K:PySem.W.Frag)(ta tv:TE)(rd:V->V->Hp->VK->Prop)(f:Str):TS:=λD Z H=>ta Z H λx H1=>∃a C dx fs v,x=.ref a/\H1 a=some (.ins C dx fs)/\iQ K C/\w9 K C f/\fs.lookup f=some v /\
 tv Z H1 λy H2=>rd v y H2 λz H3=>∃rH iO,H3 a=some (.ins C rH iO)/\iO.length<1000/\D.nx Z (upd H3 a (.ins C rH (u4 f z iO)))
section
variable{o value:Expr}{f:Str}{sL:Pos}{tv:TE}
theorem VG(he:PE X e ta)(hb:attributeBase e f X.env (eval e X.env)=eval e X.env):PE X (.Attribute e f pos) (RQ X.K ta f):=by
 intro pins s Z H Q I h;refine Nd hb (bZ (he pins s Z H _ I h) λu s1 aT=>?_);obtain⟨x,H1,I1,rx,a,C,dx,fs,v,ex,ea,c,n,l,q⟩:=aT;subst ex;obtain rfl:u=Value.ref a:=rx;exact Gy I1 ea c n l λu' s2 I2 ru=>⟨v,H1,I2,ru,q⟩
theorem VS(ha:PE X o ta)(hv:PE X value tv)(hs:swapsWith value (some (.Attribute o f pos')) pos.line X.env=pure false):PS X (.Assign [.Attribute o f pos'] value pos) (RE X.K ta tv f):=by
 intro pins s Z H D I h;refine plainObj_wpAny_Assign_Attribute (bZ (hv pins s Z H _ I h) λu s1 ⟨y,H1,I1,ry,q⟩=>bZ (ha pins s1 Z H1 _ I1 q) λov s2 aT=>?_) hs;obtain⟨x,H2,I2,rx,a,C,dx,fs,ex,ea,c,n,l,q2⟩:=aT;subst ex;obtain rfl:ov=Value.ref a:=rx;exact GD I2 ea c n l ry λs3 I3=>⟨Z,_,I3,q2⟩
theorem WZ{op:Operator}{rd:V->V->Hp->VK->Prop}(ha:PE X o ta)(hv:PE X value tv)(yQ:Ap X op rd):PS X (.AugAssign (.Attribute o f sL) op value pos) (Ox X.K ta tv rd f):=by
 intro pins s Z H D I h;refine wpAny_AugAssign_AttributeAny (bZ (ha pins s Z H _ I h) λov s1 aT=>?_);obtain⟨x,H1,I1,rx,a,C,dx,fs,v,ex,ea,c,n,l,q⟩:=aT;subst ex;obtain rfl:ov=Value.ref a:=rx;refine Gy I1 ea c n l λu s2 I2 ru=>bZ (hv pins s2 Z H1 _ I2 q) λw3 s3 ⟨y,H2,I3,ry,q3⟩=>bZ (yQ pins s3 Z H2 v y u w3 _ I3 ru ry q3) λw4 s4 aT=>?_;obtain⟨z,H3,I4,rz,rH,iO,LK,l',q4⟩:=aT;exact GD I4 LK c n l' rz λs5 I5=>⟨Z,_,I5,q4⟩
def Rt:V->V->Hp->VK->Prop:=λx y H Q=>∃i j,x=.int i/\y=.int j/\Q (.int (i+j)) H
theorem UU:Ap X .Add Rt:=by
 rintro pins s Z H x y u v Q I rx ry ⟨i,j,rfl,rfl,q⟩;obtain⟨t,rfl⟩:=(show ∃t,u=Value.int i t from rx)
 obtain⟨t',rfl⟩:=(show ∃t',v=Value.int j t' from ry)
 exact PyProof.Rows.iadd_int ⟨.int (i+j),H,I.tok _,⟨_,rfl⟩,q⟩
end
section
variable{c:Value}{b:Bool}
inductive gM(K:PySem.W.Frag)(H:Hp):V->Value->Prop where
 |bf:gM K H .bf (.type "NoneType")
 |bl (x:Bool):gM K H (.bl x) (.type "bool")
 |int (i:Int):gM K H (.int i) (.type "int")
 |str (x:Str):gM K H (.str x) (.type "str")
 |qj (x:UInt64):gM K H (.qj x) (.type "float")
 |lst {a:Addr} {xs:List V} (e:H a=some (.lst xs)):gM K H (.ref a) (.type "list")
 |jt {a:Addr} {o:Obj} {xs:List V} (e:H a=some (.jt o (.lst xs))):gM K H (.ref a) (.type "list")
 |tup {a:Addr} {xs:List V} (e:H a=some (.tup xs)):gM K H (.ref a) (.type "tuple")
 |dK {a:Addr} {kvs:List (Key×V)} (e:H a=some (.dK kvs)):gM K H (.ref a) (.type "dict")
 |dT {a:Addr} {kvs:List (List Key×V)} (e:H a=some (.dT kvs)):gM K H (.ref a) (.type "dict")
 |ins {a C dx:Addr} {fs:List (Str×V)} (e:H a=some (.ins C dx fs)) (cl:iQ K C) (ha:PySem.W.findIn K (.ref C) "__class__"=some (some (.builtin "object.__class__")))
   (hn:PySem.W.specialIn K (.builtin "object.__class__") "__get__"=some (some (.builtin "getset_descriptor.__get__"))) (rn:PySem.W.takesIn K (.builtin "object.__class__")=some true)
   (hm:PySem.W.mroIn K C (.type "object")=some true):gM K H (.ref a) (.ref C)
theorem a30{x:V}{t:Value}(I:Inv X pins Z H s)(rx:RelV x u)(ty:gM X.K H x t)(e:PySem.W.kitOne X.K t c=some b)(h:∀tk,Q (.bool b) { s with toks:=tk }) :
  wpAny (model X.prog X.w) A (call (.builtin "isinstance") [u,c]) Q E s:=by
 cases ty with
 |bf=>cases (show u=Value.none from rx);exact bT PySem.W.kitx_none I.fU True.intro e (λz=>nomatch z) h
 |bl y=>cases (show u=Value.bool y from rx);exact bT PySem.W.kitx_bool I.fU True.intro e (λz=>nomatch z) h
 |int i=>obtain⟨t,q⟩:=(show ∃t,u=Value.int i t from rx);cases q;exact bT PySem.W.kitx_int I.fU True.intro e (λz=>nomatch z) h
 |str y=>obtain⟨t,q⟩:=(show ∃t,u=Value.str y t from rx);cases q;exact bT PySem.W.kitx_str I.fU True.intro e (λz=>nomatch z) h
 |qj y=>obtain⟨t,q⟩:=(show ∃t,u=Value.float y t from rx);cases q;exact bT PySem.W.kitx_float I.fU True.intro e (λz=>nomatch z) h
 |@lst a xs ea =>
  cases (show u=Value.ref a from rx);obtain⟨_,_,n,_,h1⟩:=(show m4 X.prog X.w H s.heap a (.lst xs) from I.bw a _ ea)
  exact bT PySem.W.kitx_list I.fU ⟨_,h1,rfl⟩ e (λz=>nomatch z) h
 |@jt a ob xs ea =>
  cases (show u=Value.ref a from rx);obtain⟨_,_,_,n,_,h1⟩:=(show m4 X.prog X.w H s.heap a (.jt ob (.lst xs)) from I.bw a _ ea)
  exact bT PySem.W.kitx_list I.fU ⟨_,h1,rfl⟩ e (λz=>nomatch z) h
 |@tup a xs ea =>
  cases (show u=Value.ref a from rx);obtain⟨_,_,_,p⟩:=(show m4 X.prog X.w H s.heap a (.tup xs) from I.bw a _ ea)
  obtain⟨o,h1,h2,_⟩:=p;exact bT Jk I.fU ⟨o,h1,h2⟩ e (λz=>nomatch z) h
 |@dK a kvs ea =>
  cases (show u=Value.ref a from rx);obtain⟨_,_,vs,_,p⟩:=(show m4 X.prog X.w H s.heap a (.dK kvs) from I.bw a _ ea)
  obtain⟨o,es,ep,h1,h2,_⟩:=p;exact bT PySem.W.kitx_dict I.fU ⟨o,h1,h2.1⟩ e (λz=>nomatch z) h
 |@dT a kvs ea =>
  cases (show u=Value.ref a from rx);obtain⟨_,_,xs,_,o,es,ep,h1,h2,_⟩:=(show m4 X.prog X.w H s.heap a (.dT kvs) from I.bw a _ ea)
  exact bT PySem.W.kitx_dict I.fU ⟨o,h1,h2.1⟩ e (λz=>nomatch z) h
 |@ins a C dx fs ea cl ha hn rn hm =>
  cases (show u=Value.ref a from rx);obtain⟨mA,O,_⟩:=wY I.bw ea;obtain⟨od,J,_⟩:=O.look;exact bT (PySem.W.kitx_own (cl.get _) cl.hd ha hn rn hm) I.fU J e (λz=>nomatch z) h
end
structure q8(k:Nat)(A:Around):Prop where
 hd:A.handled=none
 dp:A.depth+3*k+5<recursionLimit
 un:A.units+16*k+200<cLine
theorem q8.mono(r:q8 k A)(h:j<=k):q8 j A:=⟨r.hd,by have:=r.dp;omega,by have:=r.un;omega⟩
theorem q8.deeper{k:Nat}{A:Around}(r:q8 (k+1) A)(env:Env):q8 k (A.deeper env) :=
 ⟨r.hd,by have:=r.dp;show A.depth+1+3*k+5<_;omega,by have:=r.un;show A.units+3+16*k+200<_;omega⟩
theorem XH{kw:List (Str×Value)}:(A.under (.builtin "type.__call__" ⟨.ref C::us,kw⟩)).depth=A.depth+1:=by
 first|rfl|simp[Around.under,Code.weight,Code.isCreation,Code.isGuard,Code.isCaller,Code.frames,Code.isFrame,guardIds]
theorem XI{kw:List (Str×Value)}:(A.under (.builtin "type.__call__" ⟨.ref C::us,kw⟩)).units=A.units+1:=by
 first|rfl|simp[Around.under,Code.cUnits,Code.frames,Code.isFrame]
theorem q8.make(r:q8 (k+1) A)(C:Addr)(us:List Value)(kw:List (Str×Value)):q8 k (A.under (.builtin "type.__call__" ⟨.ref C::us,kw⟩)) :=
 ⟨r.hd,by have:=r.dp;rw[XH];omega,by have:=r.un;rw[XI];omega⟩
theorem q8.depth{k:Nat}{A:Around}(r:q8 k A):A.depth<recursionLimit:=by have:=r.dp;omega
def Cz:TA:=λ_ H Q=>Q [] H
def Uo(ta:TE)(tr:TA):TA:=λZ H Q=>ta Z H λx H1=>tr Z H1 λxs H2=>Q (x::xs) H2
theorem sx:PA X [] Cz:=λ_ _ _ _ H Q I h=>Calls.spliced_nil ⟨[],H,I,.nil,h⟩
theorem U1(ha:PE X e te)(hr:PA X es t)(hs:starEach (e::es) X.env=(false,eval e X.env)::starEach es X.env:=by rfl):PA X (e::es) (Uo te t):=by
 intro pos pins s Z H Q I h;rw[hs];show wpAny _ _ (spliced ((false,eval e X.env)::backTo pos (starEach es X.env))) _ _ s;refine Calls.spliced_cons (bZ (ha pins s Z H _ I h) λu s1 aT=>?_);obtain⟨x,H1,I1,r1,q1⟩:=aT;exact bZ (hr pos pins s1 Z H1 _ I1 q1) λus s2 ⟨xs,H2,I2,r2,q2⟩=>⟨x::xs,H2,I2,.cons r1 r2,q2⟩
def Sb(t:TA):TE:=λZ H Q=>t Z H λxs H1=>xs.length<=sizeLine/\∀p,H1 p=none->Q (.ref p) (upd H1 p (.tup xs))
def RU(t:TA):TE:=λZ H Q=>t Z H λxs H1=>xs.length<=sizeLine/\∀p,H1 p=none->Q (.ref p) (upd H1 p (.lst xs))
theorem VN{x1}(h:PA X es t):PE X (.Tuple es x1 pos) (Sb t):=by
 intro pins s Z H Q I hq;refine wpAny_Tuple_spliced (bZ (h pos pins s Z H _ I hq) λus s1 ⟨xs,H1,I1,r,z,q⟩=>⟨by rw[<- r.length];exact z,?_⟩);have hf:H1 s1.heap.objs.size=none:=I1.bw.fresh (aj _);refine⟨.ref s1.heap.objs.size,upd H1 s1.heap.objs.size (.tup xs),I1.laid (t':=s1.toks) (λb u e=>ah _ e) (aj _) ?_,rfl,q _ hf⟩;exact⟨z,us,r,⟨_,aw _ rfl,rfl,⟨_,rfl⟩,rfl⟩⟩
theorem VI(h:PA X es t):PE X (.List es pos) (RU t):=by
 intro pins s Z H Q I hq;refine wpAny_List_spliced (bZ (h pos pins s Z H _ I hq) λus s1 ⟨xs,H1,I1,r,z,q⟩=>⟨by rw[<- r.length];exact z,?_⟩);have hf:H1 s1.heap.objs.size=none:=I1.bw.fresh (aj _);refine⟨.ref s1.heap.objs.size,upd H1 s1.heap.objs.size (.lst xs),I1.laid (t':=s1.toks) (λb u e=>ah _ e) (aj _) ?_,rfl,q _ hf⟩;exact⟨z,us,0,r,aw _ rfl⟩
noncomputable abbrev Sp:=List V->Hp->VK->XK->Prop
noncomputable abbrev mL:=List Env->Hp->Shared->XK->Value->Shared->Prop
structure qu(P:Program)(w:World)(K:PySem.W.Frag)(mg:Str->Option Value)(base:Heap)(A:Around)(outer:List Env)(s:Shared)(H:Hp):Prop where
 frames:A.frames=some outer
 mod:Mod K mg base
 bs:∀b o,base.get? b=some o->s.heap.get? b=some o/\H b=none
 mJ:base.objs.size<=s.heap.objs.size
 M8:s.heap.FunFrames base outer
 mX:∀b∈fL outer,H b=none
 bw:fR P w H s.heap
 bare:AllBare s.gens
def CE(outer:List Env)(P:Program)(w:World)(H:Hp)(s:Shared)(Q:VK)(u:Value)(s':Shared):Prop :=
 ∃v H',s'.os=s.os/\AllBare s'.gens/\Un (fL outer) [] H H' s.heap s'.heap/\fR P w H' s'.heap/\RelV v u/\Q v H'
def CR(CX:mL)(outer:List Env)(P:Program)(w:World)(H:Hp)(s:Shared)(Q:VK)(E:XK)(r:Result)(s':Shared):Prop :=
 match r with
 |.ok (.ret u)=>CE outer P w H s Q u s'
 |.ok _=>False
 |.error e=>CX outer H s E e s'
structure gy(P:Program)(w:World)(K:PySem.W.Frag)(mg:Str->Option Value)(base:Heap)(CX:mL)(k:Nat)(f:Addr)(fd:FuncData)(ps:List Str)(sp:Sp):Prop where
 len:∀vs H Q E,sp vs H Q E->vs.length=ps.length
 run:∀(A:Around) (outer:List Env) (s:Shared) (H:Hp) (args:Args) (us:List Value) (vs:List V) (Q:VK) (E:XK),q8 k A->qu P w K mg base A outer s H->BindsTo s fd args (ps.zip us)->Vals vs us->sp vs H Q E ->
  codeAny (model P w) A (.call (.ref f) args) (CR CX outer P w H s Q E) s
theorem qu.make{mg:Str->Option Value}{outer:List Env}(e:qu P w K mg base A outer s H)(C:Addr)(us:List Value)(kw:List (Str×Value)) :
  qu P w K mg base (A.under (.builtin "type.__call__" ⟨.ref C::us,kw⟩)) outer s H:=⟨by first|exact e.frames|(simpa[Around.under,Code.envs,Code.isFrame,pushEnvs] using e.frames),e.mod,e.bs,e.mJ,e.M8,e.mX,e.bw,e.bare⟩
section
variable{s':Shared}
theorem Inv.Fz(I:Inv X pins Z H s):qu X.prog X.w X.K X.mg X.base X.A X.stack s H :=
 ⟨I.ok.frames,I.ok.mod,I.bs,aJ I.ok.mJ I.sz,I.stack,I.xg,I.bw,I.bare⟩
theorem Inv.after{Q:VK}(I:Inv X pins Z H s)(h:CE X.stack X.prog X.w H s Q u s'):EP X pins Z Q u s':=by
 obtain⟨v,H',os,bare,un,bw,r,q⟩:=h;obtain⟨hh,g,d,t,pN⟩:=s';obtain rfl:pN=s.os:=os;exact⟨v,H',I.call (h':=hh) (g':=g) (d':=d) (t':=t) (ch:=[]) un bw bare (λb z=>absurd z (by simp)),r,q⟩
end
def Fi(sp:Sp)(dvs:List V)(E:XK)(t:TA):TE:=λZ H Q=>t Z H λvs H1=>sp (vs++dvs) H1 Q E
def Fj(C:Addr)(sp:Sp)(dvs:List V)(E:XK)(t:TA):TE:=λZ H Q=>t Z H λvs H1=>∀x dx,H1 x=none->H1 dx=none->dx≠x ->
 sp (.ref x::(vs++dvs)) (upd (upd H1 dx (.own x)) x (.ins C dx [])) (λv H2=>v=.bf/\Q (.ref x) H2) E
def Binds(K:PySem.W.Frag)(fd:FuncData)(ps:List Str)(ds:List Value):Prop :=
 ∀(s:Shared) (us:List Value),K.In s.heap->(us++ds).length=ps.length->BindsTo s fd ⟨us,[]⟩ (ps.zip (us++ds))
theorem Binds.all(h:∀us:List Value,us.length=ps.length->bindArgs fd ⟨us,[]⟩=pure (ps.zip us)):Binds K fd ps []:=λs us _ hl=>by
 rw[fJ] at hl ⊢;exact .of_eq (h us hl)
def Passes(CX:mL)(X:Cx)(E:XK):Prop:=∀(pins:List (Addr×Obj)) (Z:St) (H:Hp) (s:Shared) (e:Value) (s':Shared),Inv X pins Z H s->CX X.stack H s E e s'->X.xe e s'
section
variable{dvs:List V}{ds:List Value}{E:XK}
theorem wJ{Q:VK}(F:gy X.prog X.w X.K X.mg X.base CX k f fd ps sp)(hr:q8 k X.A)(hb:Binds X.K fd ps ds)(hd:Vals dvs ds)(hx:Passes CX X E)(I:Inv X pins Z H s)(r:Vals vs us)(h:sp (vs++dvs) H Q E):wpAny (model X.prog X.w) X.A (call (.ref f) us) (EP X pins Z Q) X.xe s:=by
 have r2:Vals (vs++dvs) (us++ds):=r.append hd;have hl:(us++ds).length=ps.length:=by rw[<- r2.length];exact F.len _ _ _ _ h
 refine wpAny_call (gD (F.run X.A X.stack s H ⟨us,[]⟩ (us++ds) (vs++dvs) Q E hr I.Fz (hb s us I.fU hl) r2 h) λr s' hq=>?_);cases r with
 |error e=>exact hx pins Z H s e s' I hq
 |ok fl =>
  cases fl with
  |ret u=>exact I.after hq
  |next=>exact False.elim hq
  |brk=>exact False.elim hq
  |cont=>exact False.elim hq
theorem Oa(F:gy X.prog X.w X.K X.mg X.base CX k f fd ps sp)(hr:q8 k X.A)(hg:Gl X x)(hm:X.mg x=some (.ref f))(hk:PySem.W.keepIn X.K (.ref f)=true)(hb:Binds X.K fd ps ds)(hd:Vals dvs ds)(hx:Passes CX X E)(ha:PA X (e::es) t)(gQ:(x==("__debug__":Str))=false:=by decide)(he:starEach (e::es) X.env=(false,eval e X.env)::starEach es X.env:=by rfl)(gj:(backTo pos (starEach es X.env)).any (·.1)=false:=by rfl) :
  PE X (.Call (.Name x p) (e::es) [] pos) (Fi sp dvs E t):=by
 intro pins s Z H Q I h;refine cG (P8 I hg hm ?_ gQ);refine jF (h₀:=X.base) I.ok.mod.mh hk (bZ (ha pos pins s Z H _ I h) λus s1 ⟨vs,H1,I1,r,q⟩=>⟨I1.fU,?_⟩) he gj;exact wJ F hr hb hd hx I1 r q
theorem Qs(F:gy X.prog X.w X.K X.mg X.base CX k f fd ps sp)(hr:q8 k X.A)(hg:Gl X x)(hm:X.mg x=some (.ref f))(hk:PySem.W.keepIn X.K (.ref f)=true)(hb:Binds X.K fd ps ds)(hd:Vals dvs ds)(hx:Passes CX X E)(gQ:(x==("__debug__":Str))=false:=by decide):PE X (.Call (.Name x p) [] [] pos) (Fi sp dvs E Cz):=by
 intro pins s Z H Q I h;refine cG (P8 I hg hm ?_ gQ);exact jh I.fU hk (wJ (us:=[]) F hr hb hd hx I .nil h)
structure Mk(K:PySem.W.Frag)(C f:Addr):Prop where
 makes:PySem.W.makesIn K C=true
 init:PySem.W.findIn K (.ref C) "__init__"=some (some (.ref f))
 fn:PySem.W.isFn K (.ref f)=true
 kp:PySem.W.keepIn K (.ref C)=true
theorem Iz{Q:VK}(M:Mk X.K C f)(F:gy X.prog X.w X.K X.mg X.base CX k f fd ps sp)(hr:q8 (k+1) X.A)(hb:Binds X.K fd ps ds)(hd:Vals dvs ds)(hx:Passes CX X E)(I:Inv X pins Z H s)(r:Vals vs us)(h:∀x dx,H x=none->H dx=none->dx≠x->sp (.ref x::(vs++dvs)) (upd (upd H dx (.own x)) x (.ins C dx [])) (λv H2=>v=.bf/\Q (.ref x) H2) E) :
  wpAny (model X.prog X.w) X.A (call (.ref C) us) (EP X pins Z Q) X.xe s:=by
 have hq:=h (s.heap.objs.size+1) s.heap.objs.size (I.bw.fresh (fB _)) (I.bw.fresh (aj _)) (aI (dX _));have I2:=Inv.made (C:=C) I;have r2:Vals (V.ref (s.heap.objs.size+1)::(vs++dvs)) (Value.ref (s.heap.objs.size+1)::(us++ds)):=.cons rfl (r.append hd);have hl:(Value.ref (s.heap.objs.size+1)::us++ds).length=ps.length:=by
  have e:=r2.length;rw[F.len _ _ _ _ hq] at e;exact e.symm
 refine wpAny_call (Qk (f:=f) I.fU M.makes M.init (gc.mp M.fn) (gD (F.run _ X.stack _ _ ⟨Value.ref (s.heap.objs.size + 1) :: us,[]⟩ (Value.ref (s.heap.objs.size + 1) :: (us ++ ds)) _ _ E (hr.make C us [])
  (I2.Fz.make C us []) (hb _ (Value.ref (s.heap.objs.size + 1) :: us) I2.fU hl) r2 hq) λr s' mq=>?_))
 cases r with
 |error e=>exact hx pins Z _ _ e s' I2 mq
 |ok fl =>
  cases fl with
  |ret u =>
   obtain⟨v,H',I3,rv,ev,q3⟩:=I2.after mq;subst ev;exact⟨rv,⟨V.ref (s.heap.objs.size+1),H',I3,rfl,q3⟩⟩
  |next=>exact False.elim mq
  |brk=>exact False.elim mq
  |cont=>exact False.elim mq
theorem Od(M:Mk X.K C f)(F:gy X.prog X.w X.K X.mg X.base CX k f fd ps sp)(hr:q8 (k+1) X.A)(hg:Gl X x)(hm:X.mg x=some (.ref C))(hb:Binds X.K fd ps ds)(hd:Vals dvs ds)(hx:Passes CX X E)(ha:PA X (e::es) t)(gQ:(x==("__debug__":Str))=false:=by decide)(he:starEach (e::es) X.env=(false,eval e X.env)::starEach es X.env:=by rfl)(gj:(backTo pos (starEach es X.env)).any (·.1)=false:=by rfl) :
  PE X (.Call (.Name x p) (e::es) [] pos) (Fj C sp dvs E t):=by
 intro pins s Z H Q I h;refine cG (P8 I hg hm ?_ gQ);refine jF (h₀:=X.base) I.ok.mod.mh M.kp (bZ (ha pos pins s Z H _ I h) λus s1 ⟨vs,H1,I1,r,q⟩=>⟨I1.fU,?_⟩) he gj;exact Iz M F hr hb hd hx I1 r q
theorem Qy(M:Mk X.K C f)(F:gy X.prog X.w X.K X.mg X.base CX k f fd ps sp)(hr:q8 (k+1) X.A)(hg:Gl X x)(hm:X.mg x=some (.ref C))(hb:Binds X.K fd ps ds)(hd:Vals dvs ds)(hx:Passes CX X E)(gQ:(x==("__debug__":Str))=false:=by decide):PE X (.Call (.Name x p) [] [] pos) (Fj C sp dvs E Cz):=by
 intro pins s Z H Q I h;refine cG (P8 I hg hm ?_ gQ);exact jh I.fU M.kp (Iz (us:=[]) M F hr hb hd hx I .nil h)
end
structure iC(N P:List Str)(sc:Scope):Prop where
 kind:sc.kind=.function
 co:sc.isCoroutine=false
 gen:sc.isGenerator=false
 nd:N.Nodup
 pre:N.take P.length=P
 par:∀x∈P,sc.names.lookup x=some .local\/sc.names.lookup x=some .cell
 lU:∀y∈sc.names,y.2≠.free
theorem FO{kindOf:Str->Option NameKind}{x:Str}:∀{binds:List (Str×Value)} {m:Str->Option Value},(∀v,(x,v)∉binds)->bindL kindOf binds m x=m x
 |[],_,_=>rfl
 |(n,v)::r,m,h=>by
  unfold bindL;rw[FO λw hw=>h w (bQ _ hw)];split
  ·have:x≠n:=by rintro rfl;exact h v gf
   simp[this]
  ·rfl
theorem FL{kindOf:Str->Option NameKind}{x:Str}:∀{binds:List (Str×Value)} {m:Str->Option Value},(∀v,(x,v)∉binds)->bindC kindOf binds m x=m x
 |[],_,_=>rfl
 |(n,v)::r,m,h=>by
  unfold bindC;rw[FL λw hw=>h w (bQ _ hw)];split
  ·rfl
  ·have:x≠n:=by rintro rfl;exact h v gf
   simp[this]
theorem FN{kindOf:Str->Option NameKind}{x:Str}{v:Value}:∀{P:List Str} {vs:List Value} {i:Nat} {m:Str->Option Value},P.Nodup->P[i]?=some x->vs[i]?=some v->kindOf x=some .local ->
  bindL kindOf (P.zip vs) m x=some v
 |[],_,_,_,_,h,_,_=>by simp at h
 |_::_,[],_,_,_,_,h,_=>by simp at h
 |p::P,w::vs,0,m,nd,h1,h2,hk=>by
  simp at h1 h2;subst h1;subst h2;show bindL kindOf ((p,w)::P.zip vs) m p=_;unfold bindL;rw[FO λv hv=>(eI.mp nd).1 (lN hv).1,aG hk];simp
 |p::P,w::vs,i+1,m,nd,h1,h2,hk=>by
  show bindL kindOf ((p,w)::P.zip vs) m x=_;unfold bindL;exact FN (i:=i) (eI.mp nd).2 (by simpa using h1) (by simpa using h2) hk
theorem FK{kindOf:Str->Option NameKind}{x:Str}{v:Value}:∀{P:List Str} {vs:List Value} {i:Nat} {m:Str->Option Value},P.Nodup->P[i]?=some x->vs[i]?=some v->kindOf x≠some .local ->
  bindC kindOf (P.zip vs) m x=some v
 |[],_,_,_,_,h,_,_=>by simp at h
 |_::_,[],_,_,_,_,h,_=>by simp at h
 |p::P,w::vs,0,m,nd,h1,h2,hk=>by
  simp at h1 h2;subst h1;subst h2;show bindC kindOf ((p,w)::P.zip vs) m p=_;unfold bindC;rw[FL λv hv=>(eI.mp nd).1 (lN hv).1,az hk];simp
 |p::P,w::vs,i+1,m,nd,h1,h2,hk=>by
  show bindC kindOf ((p,w)::P.zip vs) m x=_;unfold bindC;exact FK (i:=i) (eI.mp nd).2 (by simpa using h1) (by simpa using h2) hk
def start(N:List Str)(vs:List V):St:=vs.map some++List.replicate (N.length-vs.length) none
def nX(CX:mL)(P:Program)(w:World)(K:PySem.W.Frag)(mg:Str->Option Value)(base:Heap)(N:List Str)(qual:Str)(scope:Scope)(f:Addr)(cd:Value)(A:Around)(outer:List Env)(s:Shared)(H:Hp)(E:XK):Cx where
 prog:=P
 w:=w
 K:=K
 mg:=mg
 base:=base
 A:=A.deeper (envOfC qual scope s.heap.objs.size f cd)
 N:=N
 df:=s
 iZ:=H
 env:=envOfC qual scope s.heap.objs.size f cd
 outer:=outer
 stack:=envOfC qual scope s.heap.objs.size f cd::outer
 ex:=[]
 calm:=true
 fn:=λ_=>true
 pn:=[]
 xe:=λe s'=>wpAny (model P w) (A.deeper (envOfC qual scope s.heap.objs.size f cd)) (leaving (envOfC qual scope s.heap.objs.size f cd) e) (λ_ nC=>CX outer H s E e nC) (λe' nC=>CX outer H s E e' nC) s'
theorem AS{sc:Scope}{n:Nat}(h:sc.names.lookup x=some .cell):∃c,(cellsFrom n sc.names []).lookup x=some c:=by
 have q:=dz sc.names n [] (.inl h);exact eF.mp q
theorem a31{mg:Str->Option Value}{qual:Str}{scope:Scope}{cd:Value}{outer:List Env}{s1:Shared}{E:XK}(S:iC N ps scope)(hd:A.handled=none)(e0:qu P w K mg base A outer s H)(hl:vs.length=ps.length)(r:Vals vs us)(x:InCallC s s.heap.objs.size (bindL (envOfC qual scope s.heap.objs.size f cd).kindOf (ps.zip us) λ_=>none) (cellsFrom (s.heap.objs.size+1) scope.names []) (bindC (envOfC qual scope s.heap.objs.size f cd).kindOf (ps.zip us) λ_=>none) s1) :
  Inv (nX CX P w K mg base N qual scope f cd A outer s H E) [] (start N vs) H s1:=by
 have gj:ps.length<=N.length:=by have:=dE List.length S.pre;rw[cA] at this;omega
 obtain⟨h1,tk,rfl,hk⟩:=x.done;have sX:∀b:Addr,b∉(nX CX P w K mg base N qual scope f cd A outer s H E).ex:=λb z=>absurd (show b∈([]:List Addr) from z) (by simp);refine ⟨⟨e0.mod,S.kind,rfl,rfl,aj _,λy z c h1 h2=>?_,λy hy=>?_,λy c _ h=>?_,λ_=>hd,Around.frames_deeper e0.frames,.inr ⟨rfl,rfl⟩,λb z=>absurd z (sX b),e0.bs,e0.mJ,λb _ _=>sX b,λb z=>absurd z (sX b),e0.M8,e0.mX⟩,
  rfl,e0.bare,Un.kept hk,⟨_,x.toInCall.ns,λi y v h1 h2 h3=>?_⟩,λy c h=>⟨_,x.cell y c h⟩,e0.bw.fresh (aj _),λy c h=>?_,λp hp=>absurd (show p ∈ ([]:List (Addr × Obj)) from hp) (by simp),e0.bw.kept hk,?_⟩
 ·exact name_of_addr x.apart (aK h1) (aK h2)
 ·have hy:scope.names.lookup y=some .cell\/scope.names.lookup y=some .free:=hy;rcases hy with hy|hy
  ·exact AS hy
  ·exact absurd rfl (S.lU _ (aK hy))
 ·exact cX (x.above y c (aK h))
 ·have hi:i<vs.length:=by
   unfold start at h2;by_cases hi:i<vs.length
   ·exact hi
   ·rw[cP (by simpa using hi)] at h2;rw[dq] at h2;split at h2<;>cases h2
  have ha:vs[i]?=some v:=by
   unfold start at h2;rw[aH (by simpa using hi),aB] at h2;cases e:vs[i]? with
   |none=>rw[e] at h2;cases h2
   |some a=>rw[e] at h2;cases h2;rfl
  obtain⟨u,hu,rv⟩:=r.get ha;have hp:ps[i]?=some y:=by
   rw[<- S.pre,List.getElem?_take_of_lt (by omega)];exact h1
  have Dy:ps.Nodup:=by rw[<- S.pre];exact S.nd.sublist (List.take_sublist _ _)
  refine⟨u,rv,?_⟩;rcases S.par y (bg hp) with k|k
  ·exact .inl ⟨k,FN Dy hp hu k⟩
  ·obtain⟨c,e⟩:=AS (n:=s.heap.objs.size+1) k;refine .inr ⟨.inl k,c,e,?_⟩;have q:=x.cell y c e;rw[FK Dy hp hu (by show scope.names.lookup y≠_;rw[k];decide)] at q;exact q
 ·exact e0.bw.fresh (cX (x.above y c (aK h)))
 ·unfold start;show _=N.length;rw[bz,ao,iH];omega
theorem SQ{mg:Str->Option Value}{name qual:Str}{params:Arguments}{scope:Scope}{dV kV doc pm fG ct oc:Value}{an od:Option Addr}{lI:Array (Option Value)}(lk:K.lookup f=some ⟨oc,od,.func (PySem.W.fnOf name qual params body scope dV kV doc pm an fG ct),lI⟩)(lx:PySem.W.codeIn K fG qual=true)(S:iC N ps scope)(len:∀vs H Q E,sp vs H Q E->vs.length=ps.length)(ua:∀ (A:Around) (outer:List Env) (s:Shared) (H:Hp) (vs:List V) (Q:VK) (E:XK),q8 k (A.deeper (envOfC qual scope s.heap.objs.size f fG))->sp vs H Q E ->
   ∃ t,iP (nX CX P w K mg base N qual scope f fG A outer s H E) body t/\t { nx:=λ_ H'=>Q .bf H',rt:=Q } (start N vs) H) :
  gy P w K mg base CX (k+1) f (PySem.W.fnOf name qual params body scope dV kV doc pm an fG ct) ps sp:=by
 refine⟨len,λA outer s H args us vs Q E hr e0 hb r rq=>?_⟩;have hl:=len _ _ _ _ rq;have KX:K.In s.heap:=e0.mod.mh.keeps λb o e=>(e0.bs b o e).1;have lim:s.heap.NoLimit:=e0.mod.nolimit.keeps λb o e=>(e0.bs b o e).1;have tQ:∀y∈ps.zip us,scope.names.lookup y.1=some .local\/(scope.names.lookup y.1=some .cell/\((cellsFrom (s.heap.objs.size+1) scope.names []).lookup y.1).isSome=true):=λ⟨n,v⟩ hy=>by
  rcases S.par n (lN hy).1 with q|q
  ·exact .inl q
  ·exact .inr ⟨q,dz _ _ _ (.inl q)⟩
 refine codeAny_call_function hr.depth (KX _ _ lk) rfl S.co S.gen rfl (PySem.W.codeRec_of KX lx) (hb _ _ _ _ ?_);refine wpAny_newFunctionEnv_cells S.kind tQ λenv he s1 x=>?_;subst he;refine⟨lim.keeps x.toInCall.keep,codeAny_func ?_⟩;obtain⟨t,ht,hq⟩:=ua A outer s H vs Q E (hr.deeper _) rq;have I:Inv (nX CX P w K mg base N qual scope f fG A outer s H E) [] (start N vs) H s1:=a31 S hr.hd e0 hl r x;refine aV (ht [] s1 (start N vs) H _ I hq) (λfl s' hs=>?_) λe s' hs=>hs;have fin:∀{bI:St} {H':Hp} {v:V} {u:Value},Inv (nX CX P w K mg base N qual scope f fG A outer s H E) [] bI H' s'->RelV v u->Q v H'->CE outer P w H s Q u s' :=
  λ{bI H' v u} J rv q=>⟨v,H',J.os,J.bare,J.base,J.bw,rv,q⟩
 cases fl with
 |ret u =>
  obtain⟨v,bI,H',J,rv,q⟩:=hs;exact fin J rv q
 |next =>
  obtain⟨bI,H',J,q⟩:=hs;exact fin (v:=V.bf) (u:=Value.none) J rfl q
 |brk =>
  obtain⟨_,_,_,q⟩:=hs;exact False.elim q
 |cont =>
  obtain⟨_,_,_,q⟩:=hs;exact False.elim q
section
variable{id T:String}{r:List V->Hp->VK->Prop}
def yi(r:List V->Hp->VK->Prop)(t:TA):TE:=λZ H Q=>t Z H λvs H1=>r vs H1 Q
theorem xn(hc:m7 X (.builtin id) r)(hg:Gl X x)(hm:X.mg x=none)(hv:bootBuiltins x=some (.builtin id))(ha:PA X (e::es) t)(hn:x≠"__name__":=by decide)(gQ:(x==("__debug__":Str))=false:=by decide)(he:starEach (e::es) X.env=(false,eval e X.env)::starEach es X.env:=by rfl)(gj:(backTo pos (starEach es X.env)).any (·.1)=false:=by rfl):PE X (.Call (.Name x p) (e::es) [] pos) (yi r t):=by
 intro pins s Z H Q I h;refine cG (O5 I hg hm hv ?_ hn gQ);exact PyProof.Rows.callWith_builtin1 (bZ (ha pos pins s Z H _ I h) λus s1 ⟨vs,H1,I1,r1,q1⟩=>hc pins s1 Z H1 vs us Q I1 r1 q1) he gj
theorem R8(hc:m7 X (.type T) r)(hg:Gl X x)(hm:X.mg x=none)(hv:bootBuiltins x=some (.type T))(ha:PA X (e::es) t)(hn:x≠"__name__":=by decide)(gQ:(x==("__debug__":Str))=false:=by decide)(he:starEach (e::es) X.env=(false,eval e X.env)::starEach es X.env:=by rfl)(gj:(backTo pos (starEach es X.env)).any (·.1)=false:=by rfl):PE X (.Call (.Name x p) (e::es) [] pos) (yi r t):=by
 intro pins s Z H Q I h;refine cG (O5 I hg hm hv ?_ hn gQ);exact bK (bZ (ha pos pins s Z H _ I h) λus s1 ⟨vs,H1,I1,r1,q1⟩=>hc pins s1 Z H1 vs us Q I1 r1 q1) he gj
end
end L2
namespace HT
open PySem PyProof.Rows
section
variable{prog:Program}{w:World}{A:Around}{E:Value->Shared->Prop}{s:Shared}
theorem Ni{t b:Addr}{vs ws:List Value}{Q:Value->Shared->Prop}(ht:IsTup s.heap t vs.toArray)(hb:IsTup s.heap b ws.toArray)(hv:vs≠[])(h1:ws=[]->Q (.ref t) s)(h2:ws≠[]->Q (.ref s.heap.objs.size) { s with heap:=s.heap.push { cls:=.type "tuple",data:=.seq (vs++ws).toArray } })(hsz:vs.length+ws.length<=sizeLine):wpAny (model prog w) A (binaryOp .Add (.ref t) (.ref b)) Q E s:=by
 obtain⟨⟨cls,dd,data,sl⟩,ho,hc,n,hd⟩:=id ht;obtain⟨⟨uG,oY,data2,kF⟩,kn,mB,n2,hd2⟩:=id hb;simp only at hc hd mB hd2;subst hc hd mB hd2;have e:vs.toArray++ws.toArray=(vs++ws).toArray:=by simp
 by_cases hw:ws=[]
 ·exact concat_meets ⟨_,ho,rfl⟩ ⟨_,kn,rfl⟩ iR lD ic gU (gE _ _)
   (tuple_addW1 t b vs.toArray ws.toArray n n2 dd oY sl kF (by simpa using hv) (by simp[hw])) ⟨ho,kn,h1 hw⟩
 ·refine concat_meets ⟨_,ho,rfl⟩ ⟨_,kn,rfl⟩ iR lD ic gU (gE _ _)
   (tuple_addW2 t b vs.toArray ws.toArray n n2 dd oY sl kF (by simpa using hv) (by simpa using hw) (by rw[aA,aA];exact hsz)) ⟨ho,kn,?_⟩
  rw[e];exact h2 hw
def dB(n d:Nat):Option Int->Nat
 |none=>d
 |some v=>if v<0 then(v+(n:Int)).toNat else min v.toNat n
theorem LZ(n d:Nat)(hd:d<=n)(o:Option Int):dB n d o<=n:=by
 cases o with
 |none=>exact hd
 |some v =>
  show(if v<0 then(v+(n:Int)).toNat else min v.toNat n)<=n;by_cases hv:v<0
  ·rw[aG hv];omega
  ·rw[az hv];exact Nat.min_le_right _ _
theorem Hw(v:Int)(n d:Nat):(if v<0 then max (v+(n:Int)) 0 else min v (n:Int))=((dB n d (some v):Nat):Int):=by
 show(if v<0 then max (v+(n:Int)) 0 else min v (n:Int))=(((if v<0 then(v+(n:Int)).toNat else min v.toNat n):Nat):Int);by_cases hv:v<0
 ·simp only[if_pos hv];omega
 ·simp only[if_neg hv];omega
theorem Xm(lo hi:Option Int)(n:Nat):Builtin.Slice.sliceAdjust lo hi 1 (n:Int)=(((dB n 0 lo:Nat):Int),((dB n n hi:Nat):Int)):=by
 have h1:¬((1:Int)<0):=by omega
 unfold Builtin.Slice.sliceAdjust;simp only[h1,if_false];refine Prod.ext ?_ ?_
 ·cases lo with
  |none=>rfl
  |some v=>exact Hw v n 0
 ·cases hi with
  |none=>rfl
  |some v=>exact Hw v n n
theorem XS(i j:Nat):Builtin.Slice.slicePlaces (i:Int) (j:Int) 1=j-i:=by
 unfold Builtin.Slice.slicePlaces;have h1:(1:Int)>0:=by omega
 simp only[h1,if_true,Int.ediv_one];split<;>omega
theorem GG{v:Value}{o:Option Int}{Q:Option Int->Shared->Prop}(p:IsPart v o)(h:Q o s):wpAny (model prog w) A (Builtin.Slice.slicePartIndex v) Q E s:=by
 cases p with
 |none=>exact slicePart_none h
 |int i t=>exact slicePart_int h
theorem U7{sl:Addr}{vl vu:Value}{lo hi:Option Int}{n:Nat}{Q:Int×Int×Nat->Shared->Prop}(hs:s.heap.IsSliceOf sl vl vu .none)(pl:IsPart vl lo)(pu:IsPart vu hi)(h:Q (((dB n 0 lo:Nat):Int),1,dB n n hi-dB n 0 lo) s):wpAny (model prog w) A (Builtin.Slice.sliceApplied (.ref sl) (pure (n:Int))) Q E s:=by
 obtain⟨os,pW,mT,tX⟩:=id hs;unfold Builtin.Slice.sliceApplied Builtin.Slice.sliceFields;refine aa (aa (jZ pW tX (x:=vl) rfl (aa (jZ pW tX (x:=vu) rfl (aa (jZ pW tX (x:=.none) rfl (ai ?_)))))));refine aa (slicePart_none ?_);show wpAny _ _ (if((1:Int)==0)=true then _ else _) _ _ s;rw[az (by decide)];refine aa (GG pl (aa (GG pu (aa (ai ?_)))));show wpAny _ _ (match Builtin.Slice.sliceAdjust lo hi 1 (n:Int) with|(lo,hi)=>pure (lo,(1:Int),Builtin.Slice.slicePlaces lo hi 1)) _ _ s;rw[Xm lo hi n];show wpAny _ _ (pure (((dB n 0 lo:Nat):Int),(1:Int),Builtin.Slice.slicePlaces ((dB n 0 lo:Nat):Int) ((dB n n hi:Nat):Int) 1)) _ _ s;rw[XS];exact ai h
theorem QD(xs:Array Value)(i k:Nat):((List.range k).filterMap λ(m:Nat)=>xs[((i:Int)+(m:Int)*1).toNat]?).toArray=((xs.toList.drop i).take k).toArray:=by
 have e:(λ(m:Nat)=>xs[((i:Int)+(m:Int)*1).toNat]?)=λm=>xs[i+m]?:=by
  funext m
  have:((i:Int)+(m:Int)*1).toNat=i+m:=by omega
  rw[this]
 rw[e];have:=pick_run xs i k;rw[List.filterMap_map] at this;have e2:((λx=>xs[x]?) ∘ λx=>i+x)=λm=>xs[i+m]?:=rfl;rw[e2] at this;rw[this]
theorem WR{t sl:Addr}{items:Array Value}{vl vu:Value}{lo hi:Option Int}{Q:Value->Shared->Prop}(ht:IsTup s.heap t items)(hs:s.heap.IsSliceOf sl vl vu .none)(pl:IsPart vl lo)(pu:IsPart vu hi)(hw:¬(dB items.size 0 lo=0/\dB items.size items.size hi=items.size))(h:Q (.ref s.heap.objs.size) { s with heap:=s.heap.push { cls:=.type "tuple",data:=.seq ((items.toList.drop (dB items.size 0 lo)).take (dB items.size items.size hi-dB items.size 0 lo)).toArray } })(hsz:items.size<=sizeLine):wpAny (model prog w) A (getItem (.ref t) (.ref sl)) Q E s:=by
 have kI:sizeOk (.seq ((items.toList.drop (dB items.size 0 lo)).take (dB items.size items.size hi-dB items.size 0 lo)).toArray):=by
  show((items.toList.drop (dB items.size 0 lo)).take (dB items.size items.size hi-dB items.size 0 lo)).toArray.size<=sizeLine;rw[aA,cA,gW,dk];omega
 have hj:dB items.size items.size hi<=items.size:=LZ _ _ (aj _) hi;obtain⟨os,pW,mT,tX⟩:=id hs;have zf:s.TypeIs (.ref sl) "slice":=⟨os,pW,mT⟩
 unfold getItem
 try with_reducible refine bq ?_
 first|refine aa (ai ?_)|skip
 refine aa (wpAny_sequenceKey ht.typeIs (by decide) ?_);refine aa (fg (name:=Str.ofString "__getitem__") ht.typeIs bP
  (bL bP ht.typeIs entry_tuple_getitem ?_ (args_tuple_getitem _ _)))
 show wpAny _ _ (Builtin.Tuple.tupleItemsOf (.ref t) >>= _) _ _ s;refine aa (tupleItemsOf_ ht ?_);refine aa (dn zf ?_);rw[aG (by decide)];refine aa (U7 hs pl pu ?_);have ko:¬((((dB items.size 0 lo:Nat):Int)==0&&(1:Int)==1&&(dB items.size items.size hi-dB items.size 0 lo)==items.size)=true):=by
  intro q;rw[ba,ba] at q;have q1:((dB items.size 0 lo:Nat):Int)=0:=eq_of_beq q.1.1;have q2:dB items.size items.size hi-dB items.size 0 lo=items.size:=eq_of_beq q.2;exact hw ⟨by omega,by omega⟩
 show wpAny _ _ (if(((dB items.size 0 lo:Nat):Int)==0&&(1:Int)==1&&(dB items.size items.size hi-dB items.size 0 lo)==items.size)=true then _ else _) _ _ s;rw[az ko,QD]
 first
  |exact wpAny_bind (m:=Builtin.Tuple.tupleExact _) (wpAny_newObj_type (wpAny_pure ⟨_,rfl,wpAny_pure h⟩) kI)
  |exact wpAny_bind (m:=Builtin.Tuple.tupleExact _) (wpAny_newObj_type (wpAny_bind (wpAny_pure (wpAny_pure ⟨_,rfl,wpAny_pure h⟩))) kI)
  |exact wpAny_bind (wpAny_bind (m:=Builtin.Tuple.tupleExact _) (wpAny_newObj_type (wpAny_pure (wpAny_pure ⟨_,rfl,wpAny_pure h⟩)) kI))
  |exact wpAny_bind (wpAny_bind (m:=Builtin.Tuple.tupleExact _) (wpAny_newObj_type (wpAny_pure ⟨_,rfl,wpAny_pure h⟩) kI))
end
end HT
namespace L2
open PySem PySem.Spec PyProof.Rows
variable{X:Cx}{e:Expr}{pos:Pos}{n t':Nat}{α:Type}{a:Addr}{pins:List (Addr×Obj)}{Z:St}{H H':Hp}{s:Shared}{aO:List Value}{A:Around}{y x:V}{u:Value}{o:Option V}{w:World}{E:Value->Shared->Prop}{kvs:List (List Key×V)}{P:Program}
noncomputable abbrev TO:=St->Hp->(Option Int->Hp->Prop)->Prop
def PO(X:Cx)(e:Option Expr)(t:TO):Prop :=
 ∀(pins:List (Addr×Obj)) (s:Shared) (Z:St) (H:Hp) (Q:Option Int->Hp->Prop),Inv X pins Z H s->t Z H Q ->
  wpAny (model X.prog X.w) X.A (evalPart e X.env) (λu s'=>∃o H',Inv X pins Z H' s'/\IsPart u o/\Q o H') X.xe s
def Pb:TO:=λ_ H Q=>Q none H
def Us(t:TE):TO:=λZ H Q=>t Z H λx H1=>∃i,x=.int i/\Q (some i) H1
section
variable{te:TE}{lo hi:Option Expr}{tl th:TO}{p2:Pos}
theorem xb:PO X none Pb:=by
 intro pins s Z H Q I h;rw[evalPart_none];exact ai ⟨none,H,I,.none,h⟩
theorem HQ(h:PE X e te):PO X (some e) (Us te):=by
 intro pins s Z H Q I hw;rw[evalPart_some];refine bZ (h pins s Z H _ I hw) λu s1 aT=>?_;obtain⟨x,H1,I1,r1,q1⟩:=aT;obtain⟨i,rfl,q⟩:=q1;obtain⟨t,rfl⟩:=r1;exact⟨some i,H1,I1,.int i t,q⟩
def vA(X:Cx)(r:V->Option Int->Option Int->Hp->VK->Prop):Prop :=
 ∀(pins:List (Addr×Obj)) (s:Shared) (Z:St) (H:Hp) (x:V) (v vl vu:Value) (lo hi:Option Int) (sl:Addr) (Q:VK),Inv X pins Z H s->RelV x v->s.heap.IsSliceOf sl vl vu .none->IsPart vl lo->IsPart vu hi->r x lo hi H Q ->
  ∃T id,typeLookup (.type T) "__getitem__"=pure (some (.builtin id))/\s.TypeIs v T/\wpAny (model X.prog X.w) X.A (getItem v (.ref sl)) (EP X pins Z Q) X.xe s
def Ju(r:V->Option Int->Option Int->Hp->VK->Prop)(te:TE)(tl th:TO):TE:=λZ H Q=>te Z H λx H1=>tl Z H1 λl H2=>th Z H2 λu H3=>r x l u H3 Q
theorem Bc{r:V->Option Int->Option Int->Hp->VK->Prop}(hr:vA X r)(he:PE X e te)(hl:PO X lo tl)(hu:PO X hi th):PE X (.Subscript e (.Slice lo hi none p2) pos) (Ju r te tl th):=by
 intro pins s Z H Q I h;refine Subscript_ (bZ (he pins s Z H _ I h) λv s1 aT=>?_);obtain⟨x,H1,I1,r1,q1⟩:=aT;refine wpAny_Slice (bZ (hl pins s1 Z H1 _ I1 q1) λvl s2 ⟨l,H2,I2,pl,q2⟩=>bZ (hu pins s2 Z H2 _ I2 q2) λvu s3 aT=>?_);obtain⟨u,H3,I3,pu,q3⟩:=aT;rw[evalPart_none];refine ai ?_;have I4:Inv X pins Z H3 { s3 with heap:=s3.heap.push { cls:=.type "slice",data:=.fields #[vl,vu,.none] } }:=I3.kept (t':=s3.toks) λb ob q=>ah _ q;obtain⟨T,id,hT,ht,hg⟩:=hr pins { s3 with heap:=s3.heap.push { cls:=.type "slice",data:=.fields #[vl,vu,.none] } } Z H3 x v vl vu l u s3.heap.objs.size Q I4 r1 (Heap.IsSliceOf.new ..) pl pu q3;show wpAny (model X.prog X.w) X.A (subscriptTail e (.Slice lo hi none p2) v (.ref s3.heap.objs.size)) (EP X pins Z Q) X.xe { s3 with heap:=s3.heap.push { cls:=.type "slice",data:=.fields #[vl,vu,.none] } };exact tail_any (ops:=[.ref s3.heap.objs.size,v]) ht hT hg (by with_unfolding_all rfl)
def X3(xs:List V)(lo hi:Option Int):List V:=(xs.drop (HT.dB xs.length 0 lo)).take (HT.dB xs.length xs.length hi-HT.dB xs.length 0 lo)
theorem GJ(xs:List V)(lo hi:Option Int):(X3 xs lo hi).length<=xs.length:=by
 unfold X3;rw[cA,gW];omega
def RC(K:PySem.W.Frag):V->Option Int->Option Int->Hp->VK->Prop:=λx lo hi H Q=>∃a xs,x=.ref a/\gS K H a xs /\
 ¬(HT.dB xs.length 0 lo=0/\HT.dB xs.length xs.length hi=xs.length)/\∀p,H p=none->Q (.ref p) (upd H p (.tup (X3 xs lo hi)))
theorem Mr:vA X (RC X.K):=by
 intro pins s Z H x v vl vu lo hi sl Q I rx hs pl pu h;obtain⟨a,xs,rfl,hx,hw,q⟩:=h;cases rx;obtain⟨aO,r,ht,hz⟩:=I.tuple hx;have hlen:aO.toArray.size=xs.length:=by rw[aA];exact r.length.symm
 refine⟨"tuple",_,bP.lookup,ht.typeIs,?_⟩;refine HT.WR ht hs pl pu (by rw[hlen];exact hw) ?_ (by rw[hlen];exact hz);rw[hlen];refine⟨.ref s.heap.objs.size,_,I.laid (t':=s.toks) (o:=.tup (X3 xs lo hi)) (λb ob q=>ah _ q) (aj _) ?_,rfl,q _ (I.bw.fresh (aj _))⟩;exact⟨aJ (GJ xs lo hi) hz,_,(r.drop (HT.dB xs.length 0 lo)).take (HT.dB xs.length xs.length hi-HT.dB xs.length 0 lo),M5.new _ _⟩
def TY(K:PySem.W.Frag):R2:=λx y H Q=>∃a b xs ys,x=.ref a/\y=.ref b/\gS K H a xs/\gS K H b ys/\xs≠[]/\xs.length+ys.length<=sizeLine /\
 (ys=[]->Q (.ref a) H)/\(ys≠[]->∀p,H p=none->Q (.ref p) (upd H p (.tup (xs++ys))))
theorem Vals.U2{xs:List V}{us:List Value}(r:Vals xs us):us=[]↔xs=[]:=by
 cases r with
 |nil=>simp
 |cons _ _=>simp
theorem NS:fu X (binaryOp .Add) (TY X.K):=by
 intro pins s Z H x y v u Q I rx ry h;obtain⟨a,b,xs,ys,rfl,rfl,ha,hb,hx,hz,q1,q2⟩:=h;cases rx;cases ry;obtain⟨aO,r1,p1,_⟩:=I.tuple ha;obtain⟨mj,r2,p2,_⟩:=I.tuple hb;refine HT.Ni p1 p2 (λz=>hx (r1.U2.mp z)) (λz=>⟨.ref a,H,I,rfl,q1 (r2.U2.mp z)⟩) (λz=>?_) (by rw[<- r1.length,<- r2.length];exact hz);refine⟨.ref s.heap.objs.size,_,I.laid (t':=s.toks) (o:=.tup (xs++ys)) (λb ob q=>ah _ q) (aj _) ?_,rfl,q2 (λw=>z (r2.U2.mpr w)) _ (I.bw.fresh (aj _))⟩;exact⟨by rw[bz];exact hz,_,r1.append r2,M5.new _ _⟩
end
def mR(n:Nat)(i:Int):Option Nat:=if 0<=i then(if i<n then some i.toNat else none) else if -(n:Int)<=i then some (i+n).toNat else none
def iY{α:Type}(xs:List α)(i:Int):Option α:=(mR xs.length i).bind λj=>xs[j]?
theorem HE{i:Int}{j:Nat}(h:mR n i=some j):seqIndex? i n=some j/\j<n/\-(n:Int)<=i/\i<n:=by
 unfold mR at h;by_cases h0:0<=i
 ·rw[aG h0] at h;by_cases h1:i<n
  ·rw[aG h1] at h;have e:i.toNat=j:=aF h;exact⟨by rw[seqIndex_of h0 h1,e],by omega,by omega,h1⟩
  ·rw[az h1] at h;cases h
 ·rw[az h0] at h;by_cases h1:-(n:Int)<=i
  ·rw[aG h1] at h;have e:(i+n).toNat=j:=aF h;exact⟨by rw[seqIndex_neg (by omega) h1,e],by omega,h1,by omega⟩
  ·rw[az h1] at h;cases h
theorem AE{xs:List α}{i:Int}{v:α}(h:iY xs i=some v):∃j,seqIndex? i xs.length=some j/\xs[j]?=some v/\j<xs.length/\-(xs.length:Int)<=i/\i<xs.length:=by
 unfold iY at h;cases e:mR xs.length i with
 |none=>rw[e] at h;cases h
 |some j =>
  rw[e] at h;obtain⟨h1,h2,h3,h4⟩:=HE e;exact⟨j,h1,h,h2,h3,h4⟩
theorem ve{xs:List α}{j:Nat}{v:α}(h:xs[j]?=some v):iY xs (j:Int)=some v:=by
 have hj:j<xs.length:=(aD.mp h).1;have e:mR xs.length (j:Int)=some j:=by
  unfold mR;rw[aG (by omega),aG (by omega)];simp
 unfold iY;rw[e];exact h
def AA(b:Expr):Prop:=∀o i,subscripted b false o i=operate [o,i] (getItem o i)
def qS(X:Cx)(r:R2):Prop :=
 ∀(value slice:Expr) (pins:List (Addr×Obj)) (s:Shared) (Z:St) (H:Hp) (x y:V) (v u:Value) (Q:VK),Inv X pins Z H s->RelV x v->RelV y u->r x y H Q ->
  subscripted slice false v u=operate [v,u] (getItem v u)->wpAny (model X.prog X.w) X.A (subscriptTail value slice v u) (EP X pins Z Q) X.xe s
def kB(X:Cx)(id:String)(r:V->List V->Hp->VK->Prop):Prop :=
 ∀(pins:List (Addr×Obj)) (s:Shared) (Z:St) (H:Hp) (x:V) (xs:List V) (v:Value) (us:List Value) (Q:VK),Inv X pins Z H s->RelV x v->Vals xs us->r x xs H Q ->
  wpAny (model X.prog X.w) X.A (call (.builtin id) (v::us)) (EP X pins Z Q) X.xe s
section
variable{a b:Expr}{ta tb:TE}
theorem Fc{r:R2}(hr:qS X r)(ha:PE X a ta)(hb:PE X b tb)(hs:AA b):PE X (.Subscript a b pos) (oB r ta tb):=by
 intro pins s Z H Q I h;exact Subscript_ (Au ha hb I h λv u s2 x y H2 I2 rx ry q=>hr a b pins s2 Z H2 x y v u Q I2 rx ry q (hs _ _))
def Rv(K:PySem.W.Frag):R2:=λx y H Q=>∃p xs i v,x=.ref p/\y=.int i/\ft K H p xs/\iY xs i=some v/\Q v H
def Rx(K:PySem.W.Frag):R2:=λx y H Q=>∃p xs i v,x=.ref p/\y=.int i/\gS K H p xs/\iY xs i=some v/\Q v H
def Rw:R2:=λx y H Q=>∃z i c,x=.str z/\y=.int i/\z.length<=sizeLine/\iY z.cps.toList i=some c/\Q (.str ⟨#[c]⟩) H
theorem Nz:qS X (Rv X.K):=by
 intro value slice pins s Z H x y v u Q I rx ry h hs;obtain⟨p,xs,i,z,rfl,rfl,hq,he,q⟩:=h;cases rx;obtain⟨t,rfl⟩:=ry;obtain⟨aO,r,pl,hz⟩:=I.list hq;obtain⟨j,h1,h2,h3,h4,h5⟩:=AE he;obtain⟨w,ew,eW⟩:=r.get h2;have hl:=r.length;have hn:=V9;have fin:EP X pins Z Q w s:=⟨z,H,I,eW,q⟩
 by_cases h0:0<=i
 ·have hj:i.toNat=j:=by
   rw[seqIndex_of h0 h5] at h1;exact aF h1
  exact item_listR pl.isList h0 (by omega) (by rw[hj];simpa using ew) fin hs
 ·have hj:(i+(aO.toArray.size:Int)).toNat=j:=by
   rw[seqIndex_neg (by omega) h4] at h1;rw[aA,<- hl];exact aF h1
  exact subscriptTail_builtinR (x:=w) pl.isList.typeIs slot_list_getitem.lookup
   (wpAny_getItem_list_neg (Q:=λr s'=>r=w/\EP X pins Z Q r s') pl.isList (by omega) (by rw[aA]<;>omega) (by omega) (by rw[hj];simpa using ew) ⟨rfl,fin⟩) hs
theorem Vb:qS X (Rx X.K):=by
 intro value slice pins s Z H x y v u Q I rx ry h hs;obtain⟨p,xs,i,z,rfl,rfl,hq,he,q⟩:=h;cases rx;obtain⟨t,rfl⟩:=ry;obtain⟨aO,r,pl,hz⟩:=I.tuple hq;obtain⟨j,h1,h2,h3,h4,h5⟩:=AE he;obtain⟨w,ew,eW⟩:=r.get h2;have hl:=r.length;have hn:=V9;have fin:EP X pins Z Q w s:=⟨z,H,I,eW,q⟩
 exact subscriptTail_builtinR (x:=w) pl.typeIs slot_tuple_getitem.lookup
  (getItem_tuple (j:=j) (Q:=λr s'=>r=w/\EP X pins Z Q r s') pl (by omega) (by omega) (by rw[aA,<- hl];exact h1) (by simpa using ew) ⟨rfl,fin⟩) hs
theorem Va:qS X Rw:=by
 intro value slice pins s Z H x y v u Q I rx ry h hs;obtain⟨z,i,c,rfl,rfl,hz,he,q⟩:=h;obtain⟨t,rfl⟩:=rx;obtain⟨t',rfl⟩:=ry;obtain⟨j,h1,h2,h3,h4,h5⟩:=AE he;have hl:z.cps.toList.length=z.length:=by simp[Str.length]
 rw[hl] at h1 h4 h5;have hn:=V9;exact tail_any (typeIs_str s z t) slot_str_getitem.lookup (getItem_str (c:=c) (by
  have e1:decide (i < -(2 ^ 63:Int))=false:=ax (by omega);have e2:decide (i>=2 ^ 63)=false:=ax (by omega);rw [e1,e2,Bool.or_false]) (by rw [h1];simpa using h2) ⟨.str ⟨#[c]⟩,H,I.tok _,⟨_,rfl⟩,q⟩) hs
theorem XJ(aO:List Value)(n j:Nat)(u:Value):Obj.mapSeq (·.setIfInBounds j u) { cls:=.type "list",data:=.seq aO.toArray n }={ cls:=.type "list",data:=.seq (aO.set j u).toArray n }:=by
 simp[Obj.mapSeq]
theorem Inv.lst{pins:List (Addr×Obj)}{Z:St}{H:Hp}{s:Shared}{p:Addr}{xs:List V}(I:Inv X pins Z H s)(h:H p=some (.lst xs)) :
  ∃(aO:List Value) (n:Nat),Vals xs aO/\s.heap.get? p=some { cls:=.type "list",data:=.seq aO.toArray n }/\xs.length<=sizeLine:=by
 obtain⟨z,aO,n,r,e⟩:=I.bw p _ h;exact⟨aO,n,r,e,z⟩
theorem Inv.Vl{p:Addr}{xs ys:List V}{its':List Value}{n':Nat}{f:Obj->Obj}(I:Inv X pins Z H s)(h:H p=some (.lst xs))(ho:s.heap.get? p=some { cls:=.type "list",data:=.seq aO.toArray n })(hf:f { cls:=.type "list",data:=.seq aO.toArray n }={ cls:=.type "list",data:=.seq its'.toArray n' })(r:Vals ys its')(hz:ys.length<=sizeLine)(t:Nat) :
  Inv X pins Z (upd H p (.lst ys)) { s with heap:=s.heap.update p f,toks:=t }:=by
 have e:(s.heap.update p f).get? p=some { cls:=.type "list",data:=.seq its'.toArray n' }:=by
  rw[aW f ho (by rw[hf]<;>rfl),hf]
 refine I.write (x:=p) (e:=p) (by rw[h];trivial) (.inl rfl) (λb u hb q=>(bY _ _ (aZ hb)).trans q) ⟨_,e⟩ ?_;exact⟨hz,its',n',r,e⟩
def Ub:V->V->V->Hp->(Hp->Prop)->Prop:=λo i v H Q=>∃p xs k j,o=.ref p/\i=.int k/\H p=some (.lst xs)/\mR xs.length k=some j/\Q (upd H p (.lst (xs.set j v)))
theorem set_list:Aq X Ub:=by
 intro pins s Z H o i v ov iv u Q I ro ri rv h;obtain⟨p,xs,k,j,rfl,rfl,hp,hj,q⟩:=h;cases ro;obtain⟨t,rfl⟩:=ri;obtain⟨aO,n,r,ho,hz⟩:=I.lst hp;obtain⟨h1,h2,h3,h4⟩:=HE hj;have hl:=r.length;have hn:=V9;have I':Inv X pins Z (upd H p (.lst (xs.set j v))) { s with heap:=s.heap.update p (Obj.mapSeq (·.setIfInBounds j u)) } :=
  I.Vl hp ho (XJ aO n j u) (r.set rv j) (by rw[List.length_set];exact hz) s.toks
 by_cases h0:0<=k
 ·have hk:k.toNat=j:=by
   rw[seqIndex_of h0 h4] at h1;exact aF h1
  exact PySem.W.ki_setAt ho h0 (by omega) (by rw[aA,<- hl];exact h4) (by rw[hk];exact⟨_,I',q⟩)
 ·have hk:(k+(aO.toArray.size:Int)).toNat=j:=by
   rw[seqIndex_neg (by omega) h3] at h1;rw[aA,<- hl];exact aF h1
  exact PySem.W.ki_setBack ho (by omega) (by rw[aA,<- hl];exact h3) (by omega) (by rw[hk];exact⟨_,I',q⟩)
theorem Zh(lo hi:Option Int)(n:Nat):(sliceBounds lo hi none n).1=((HT.dB n 0 lo:Nat):Int)/\(sliceBounds lo hi none n).2.1=((HT.dB n n hi:Nat):Int)/\(sliceBounds lo hi none n).2.2=1:=by
 refine⟨?_,?_,rfl⟩
 ·cases lo with
  |none=>simp[sliceBounds,HT.dB]
  |some i =>
   simp only[sliceBounds,HT.dB,Option.getD_none,show(1:Int)>0 by decide,if_true];by_cases h:i<0
   ·simp only[h,if_true]<;>omega
   ·simp only[h,if_false]<;>omega
 ·cases hi with
  |none=>simp[sliceBounds,HT.dB]
  |some i =>
   simp only[sliceBounds,HT.dB,Option.getD_none,show(1:Int)>0 by decide,if_true];by_cases h:i<0
   ·simp only[h,if_true]<;>omega
   ·simp only[h,if_false]<;>omega
theorem WA(aO:List Value)(lo hi:Option Int):slicePick aO.toArray lo hi none=((aO.drop (HT.dB aO.length 0 lo)).take (HT.dB aO.length aO.length hi-HT.dB aO.length 0 lo)).toArray:=by
 obtain⟨h1,h2,h3⟩:=Zh lo hi aO.toArray.size;unfold slicePick;rw[h1,h2,h3];simp only[sliceRange_one,pick_run,List.size_toArray]<;>rfl
def RB(K:PySem.W.Frag):V->Option Int->Option Int->Hp->VK->Prop:=λx lo hi H Q=>∃a xs,x=.ref a/\ft K H a xs/\∀p,H p=none->Q (.ref p) (upd H p (.lst (X3 xs lo hi)))
theorem OS:vA X (RB X.K):=by
 intro pins s Z H x v vl vu lo hi sl Q I rx hs pl pu h;obtain⟨a,xs,rfl,hx,q⟩:=h;cases rx;obtain⟨aO,r,ht,hz⟩:=I.list hx;have hlen:=r.length;refine⟨"list",_,slot_list_getitem.lookup,ht.isList.typeIs,?_⟩;refine wpAny_getItem_list_slice ht.isList hs pl pu .none (by simp) ?_ (by rw[aA]<;>omega);rw[WA,<- hlen];refine⟨.ref s.heap.objs.size,_,I.laid (t':=s.toks) (o:=.lst (X3 xs lo hi)) (λb ob q=>ah _ q) (aj _) ?_,rfl,q _ (I.bw.fresh (aj _))⟩;exact⟨aJ (GJ xs lo hi) hz,_,0,(r.drop (HT.dB xs.length 0 lo)).take (HT.dB xs.length xs.length hi-HT.dB xs.length 0 lo),aw _ rfl⟩
def J7:V->Bool
 |.bf=>true
 |.bl _=>true
 |.int _=>true
 |.str _=>true
 |_=>false
def lA:V->V->Bool
 |.bf,.bf=>true
 |.bl a,.bl b=>a==b
 |.bl a,.int b=>(if a then 1 else 0)==b
 |.int a,.bl b=>a==(if b then 1 else 0)
 |.int a,.int b=>a==b
 |.str a,.str b=>a==b
 |_,_=>false
theorem US{v:Value}(ry:RelV y u)(rx:RelV x v)(fy:J7 y=true)(fx:J7 x=true):SeqAt.EqAt A s u v (lA y x):=by
 cases y with
 |bf =>
  cases ry;cases x with
  |bf=>cases rx;exact SeqAt.EqAt.same _
  |bl b=>cases rx;exact SeqAt.EqAt.none_bool b
  |int b=>obtain⟨t,rfl⟩:=rx;exact SeqAt.EqAt.none_int b t
  |str b=>obtain⟨t,rfl⟩:=rx;exact SeqAt.EqAt.none_str b t
  |_=>exact absurd (show false=true from fx) Bool.false_ne_true
 |bl a =>
  cases ry;cases x with
  |bf=>cases rx;exact SeqAt.EqAt.bool_none a
  |bl b=>cases rx;exact SeqAt.EqAt.bool_bool a b
  |int b=>obtain⟨t,rfl⟩:=rx;exact SeqAt.EqAt.bool_int a b t
  |str b=>obtain⟨t,rfl⟩:=rx;exact SeqAt.EqAt.bool_str a b t
  |_=>exact absurd (show false=true from fx) Bool.false_ne_true
 |int a =>
  obtain⟨t',rfl⟩:=ry;cases x with
  |bf=>cases rx;exact SeqAt.EqAt.int_none a t'
  |bl b=>cases rx;exact SeqAt.EqAt.int_bool a t' b
  |int b=>obtain⟨t,rfl⟩:=rx;exact SeqAt.EqAt.int_int a t' b t
  |str b=>obtain⟨t,rfl⟩:=rx;exact SeqAt.EqAt.int_str a t' b t
  |_=>exact absurd (show false=true from fx) Bool.false_ne_true
 |str a =>
  obtain⟨t',rfl⟩:=ry;cases x with
  |bf=>cases rx;exact SeqAt.EqAt.str_none a t'
  |bl b=>cases rx;exact SeqAt.EqAt.str_bool a t' b
  |int b=>obtain⟨t,rfl⟩:=rx;exact SeqAt.EqAt.str_int a t' b t
  |str b=>obtain⟨t,rfl⟩:=rx;exact SeqAt.EqAt.str_str a t' b t
  |_=>exact absurd (show false=true from fx) Bool.false_ne_true
 |_=>exact absurd (show false=true from fy) bA
def lB(x:V)(u:Value):Bool:=match u with
 |.none=>lA .bf x
 |.bool b=>lA (.bl b) x
 |.int i _=>lA (.int i) x
 |.str z _=>lA (.str z) x
 |_=>false
theorem wG(r:RelV y u)(f:J7 y=true):lB x u=lA y x:=by
 cases y with
 |bf=>cases r;rfl
 |bl b=>cases r;rfl
 |int i=>obtain⟨t,rfl⟩:=r;rfl
 |str z=>obtain⟨t,rfl⟩:=r;rfl
 |_=>exact absurd (show false=true from f) bA
theorem AB{x:V}:∀{xs:List V} {us:List Value},Vals xs us->xs.all J7=true->us.any (lB x)=xs.any λy=>lA y x
 |_,_,.nil,_=>rfl
 |y::xs,u::us,.cons r t,f=>by
  rw[gG,ba] at f;rw[fz,fz,wG r f.1,AB t f.2]
theorem V4{A:Around}{s:Shared}{x:V}{v:Value}(rx:RelV x v)(fx:J7 x=true):∀{xs:List V} {us:List Value},Vals xs us->xs.all J7=true->∀u∈us,SeqAt.EqAt A s u v (lB x u)
 |_,_,.nil,_=>λu hu=>by cases hu
 |y::xs,u::us,.cons r t,f=>λu' hu=>by
  rw[gG,ba] at f;rcases ay.mp hu with rfl|hu
  ·rw[wG r f.1];exact US r rx f.1 fx
  ·exact V4 rx fx t f.2 u' hu
def vZ(x:V)(xs:List V):Bool:=xs.any λy=>lA y x
def ym(K:PySem.W.Frag)(neg:Bool):R2:=λx y H Q=>∃p xs,y=.ref p/\(ft K H p xs\/gS K H p xs)/\J7 x=true/\xs.all J7=true/\Q (.bl (if neg then !vZ x xs else vZ x xs)) H
theorem Zd:fu X (compareOp .NotIn) (ym X.K true):=by
 intro pins s Z H x y v u Q I rx ry h;obtain⟨p,xs,rfl,hq,fx,fs,q⟩:=h;cases ry;rcases hq with hq|hq
 ·obtain⟨aO,r,pl,hz⟩:=I.list hq;refine SeqAt.notIn_listAt (lB x) pl.isList (λw hw=>V4 rx fx r fs w (by simpa using hw)) ⟨.bl _,H,I,rfl,?_⟩;rw[show aO.toArray.any (lB x)=aO.any (lB x) by simp,AB r fs];exact q
 ·obtain⟨aO,r,pl,hz⟩:=I.tuple hq;refine SeqAt.notIn_tupleAt (lB x) pl (λw hw=>V4 rx fx r fs w (by simpa using hw)) ⟨.bl _,H,I,rfl,?_⟩;rw[show aO.toArray.any (lB x)=aO.any (lB x) by simp,AB r fs];exact q
theorem YR:m7 X (.builtin "len") (λxs H Q=>∃p ys,xs=[.ref p]/\(ft X.K H p ys\/gS X.K H p ys)/\Q (.int ys.length) H):=by
 intro pins s Z H xs us Q I r h;obtain⟨p,ys,rfl,hq,q⟩:=h;obtain⟨u,rfl,rx⟩:=vals1 r;cases rx;have hn:=V9;rcases hq with hq|hq
 ·obtain⟨aO,r',pl,hz⟩:=I.list hq;have hlen:=r'.length;exact Calls.call_len_list pl.isList (by simp only[List.size_toArray]<;>omega) ⟨.int ys.length,H,I.tok _,⟨s.toks+1,by rw[aA,hlen]⟩,q⟩
 ·obtain⟨aO,r',pl,hz⟩:=I.tuple hq;have hlen:=r'.length;exact len_tuple pl (by simp only[List.size_toArray]<;>omega) ⟨.int ys.length,H,I.tok _,⟨s.toks+1,by rw[aA,hlen]⟩,q⟩
theorem YS:m7 X (.builtin "len") (λxs H Q=>∃z,xs=[.str z]/\z.length<=sizeLine/\Q (.int z.length) H):=by
 intro pins s Z H xs us Q I r h;obtain⟨z,rfl,hz,q⟩:=h;obtain⟨u,rfl,t,rfl⟩:=vals1 r;have hn:=V9;exact len_str (by omega) ⟨.int z.length,H,I.tok _,⟨_,rfl⟩,q⟩
theorem YT:m7 X (.type "list") (λxs H Q=>∃p ys,xs=[.ref p]/\(ft X.K H p ys\/gS X.K H p ys)/\∀l,H l=none->Q (.ref l) (upd H l (.lst ys))):=by
 intro pins s Z H xs us Q I r h;obtain⟨p,ys,rfl,hq,q⟩:=h;obtain⟨u,rfl,rx⟩:=vals1 r;cases rx;have fin:∀(aO:List Value),Vals ys aO->ys.length<=sizeLine->∀(h':Heap) (c':Nat),(∀b o',s.heap.get? b=some o'->h'.get? b=some o') ->
   h'.get? s.heap.objs.size=some { cls:=.type "list",dict:=none,data:=.seq aO.toArray c',slots:=#[] }->EP X pins Z Q (.ref s.heap.objs.size) { s with heap:=h' }:=λaO r' hz h' c' kp e =>
  ⟨.ref s.heap.objs.size,_,I.laid (t':=s.toks) kp (aj _) (show m4 X.prog X.w _ h' _ (.lst ys) from⟨hz,aO,c',r',e⟩),rfl,q _ (I.bw.fresh (aj _))⟩
 rcases hq with hq|hq
 ·obtain⟨aO,r',pl,hz⟩:=I.list hq;have hlen:=r'.length;obtain⟨o,ho,hc,n,hd⟩:=pl.isList;exact call_list_seq p (.inl rfl) ho hc hd (λh' c' kp e=>fin aO r' hz h' c' kp e) (by simp only[List.size_toArray]<;>omega)
 ·obtain⟨aO,r',pl,hz⟩:=I.tuple hq;have hlen:=r'.length;obtain⟨o,ho,hc,n,hd⟩:=pl;exact call_list_seq p (.inr rfl) ho hc hd (λh' c' kp e=>fin aO r' hz h' c' kp e) (by simp only[List.size_toArray]<;>omega)
theorem Zl:m7 X (.type "tuple") (λxs H Q=>∃p ys,xs=[.ref p]/\((ft X.K H p ys/\∀l,H l=none->Q (.ref l) (upd H l (.tup ys)))\/(gS X.K H p ys/\Q (.ref p) H))):=by
 intro pins s Z H xs us Q I r h;obtain⟨p,ys,rfl,h⟩:=h;obtain⟨u,rfl,rx⟩:=vals1 r;cases rx;rcases h with⟨hq,q⟩|⟨hq,q⟩
 ·obtain⟨aO,r',pl,hz⟩:=I.list hq;have hlen:=r'.length;refine call_tuple_list pl.isList (λh' kp=>?_) (by simp only[List.size_toArray]<;>omega);have I1:Inv X pins Z H { s with heap:=h' }:=I.kept (t':=s.toks) kp;have I2:Inv X pins Z (upd H h'.objs.size (.tup ys)) { s with heap:=h'.push { cls:=.type "tuple",data:=.seq aO.toArray } } :=
   I1.laid (t':=s.toks) (λb o e=>ah _ e) (aj _) (show m4 X.prog X.w _ _ _ (.tup ys) from⟨hz,aO,r',M5.new _ _⟩)
  exact⟨.ref h'.objs.size,_,I2,rfl,q _ (I1.bw.fresh (aj _))⟩
 ·obtain⟨aO,r',pl,hz⟩:=I.tuple hq;exact call_tuple_same pl ⟨.ref p,H,I,rfl,q⟩
def mO(K:PySem.W.Frag)(T:String)(x:V)(H:Hp):Prop:=match x with
 |.str _=>T="str"
 |.int _=>T="int"
 |.ref p=>(T="list"/\∃xs,ft K H p xs)\/(T="tuple"/\∃o,K.lookup p=some o/\o.cls=.type "tuple"/\o.dict=none) \/
   (T="dict"/\((∃kvs,H p=some (.dK kvs))\/∃kvs,H p=some (.dT kvs)))\/(T="set"/\∃S n,H p=some (.set S n))
 |_=>False
theorem Hn{T:String}{v:Value}(I:Inv X pins Z H s)(r:RelV x v)(ty:mO X.K T x H) :
  s.TypeIs v T/\∀a,v=.ref a->∃ob,s.heap.get? a=some ob/\ob.dict=none:=by
 cases x with
 |str z =>
  obtain⟨t,rfl⟩:=r;cases (show T="str" from ty);exact⟨typeIs_str s z t,λ_ e=>nomatch e⟩
 |int i =>
  obtain⟨t,rfl⟩:=r;cases (show T="int" from ty);exact⟨lM s i t,λ_ e=>nomatch e⟩
 |ref p =>
  cases r;rcases ty with⟨rfl,xs,hq⟩|⟨rfl,o,hk,hc,hd⟩|⟨rfl,hk⟩|⟨rfl,S,n,hk⟩
  ·obtain⟨aO,_,pl,_⟩:=I.list hq;refine⟨pl.isList.typeIs,λa e=>?_⟩;cases e;obtain⟨o,n,e,c,hd,_⟩:=pl;exact⟨o,e,hd⟩
  ·refine⟨⟨o,I.fU p o hk,hc⟩,λa e=>?_⟩;cases e;exact⟨o,I.fU _ o hk,hd⟩
  ·have z:∃o,s.heap.get? p=some o/\o.ExactDict:=by
    rcases hk with⟨kvs,hk⟩|⟨kvs,hk⟩
    ·obtain⟨_,_,_,_,o,_,_,e,ex,_⟩:=I.bw p _ hk;exact⟨o,e,ex⟩
    ·obtain⟨_,_,_,_,o,_,_,e,ex,_⟩:=I.bw p _ hk;exact⟨o,e,ex⟩
   obtain⟨o,e,ex⟩:=z;refine⟨⟨o,e,ex.1⟩,λa e2=>?_⟩;cases e2;exact⟨o,e,ex.2.1⟩
  ·obtain⟨o,_,_,_,e,ex,_⟩:=I.bw p _ hk;refine⟨⟨o,e,ex.1⟩,λa e2=>?_⟩;cases e2;exact⟨o,e,ex.2.1⟩
 |_=>exact False.elim ty
def RP(K:PySem.W.Frag)(T:String)(r:V->List V->Hp->VK->Prop)(to:TE):TE:=λZ H Q=>to Z H λx H1=>mO K T x H1/\r x [] H1 Q
def Jx(K:PySem.W.Frag)(T:String)(r:V->List V->Hp->VK->Prop)(to:TE)(t:TA):TE:=λZ H Q=>to Z H λx H1=>mO K T x H1/\t Z H1 λxs H2=>r x xs H2 Q
variable{o:Expr}{es:List Expr}{to:TE}{t:TA}{name:Str}{apos dS:Pos}{T id:String}{r:V->List V->Hp->VK->Prop}
theorem VF(pa:PlainAttrs T)(slot:Slot T name id)(pT:typeOf (.builtin id)=pure (.type "method_descriptor"))(hm:kB X id r)(ho:PE X o to)(fq:attributeBase o name X.env (eval o X.env)=eval o X.env:=by rfl)(fo:(apos.endLine==dS.line)=true:=by rfl):PE X (.Call (.Attribute o name apos) [] [] dS) (RP X.K T r to):=by
 intro pins s Z H Q I h;refine wpAny_Call_method0_late fq fo (bZ (ho pins s Z H _ I h) λv s1 aT=>?_);obtain⟨x,H1,I1,r1,ty,q1⟩:=aT;obtain⟨h1,h2⟩:=Hn I1 r1 ty;exact⟨T,id,pa,slot,pT,h1,h2,fC rfl (CQ (hm pins s1 Z H1 x [] v [] Q I1 r1 .nil q1))⟩
theorem TK(pa:PlainAttrs T)(slot:Slot T name id)(pT:typeOf (.builtin id)=pure (.type "method_descriptor"))(hm:kB X id r)(ho:PE X o to)(ha:PA X (e::es) t)(fq:attributeBase o name X.env (eval o X.env)=eval o X.env:=by rfl)(kq:((backTo dS (starEach (e :: es) X.env)).all (λx=>!x.1) && (backToKw dS (keywordEach [] X.env)).all (λx=>x.1.isSome)
   && decide ((e :: es).length + ([]:List Keyword).length + (if ([]:List Keyword).isEmpty then 0 else 1) < 30))=true:=by rfl)(fo:(apos.endLine==dS.line)=true:=by rfl)(hs:starEach (e::es) X.env=(false,eval e X.env)::starEach es X.env:=by rfl)(eG:(backTo dS (starEach es X.env)).any (·.1)=false:=by rfl) :
  PE X (.Call (.Attribute o name apos) (e::es) [] dS) (Jx X.K T r to t):=by
 intro pins s Z H Q I h;refine wpAny_Call_method_late fq kq fo rfl (bZ (ho pins s Z H _ I h) λv s1 aT=>?_);obtain⟨x,H1,I1,r1,ty,q1⟩:=aT;obtain⟨h1,h2⟩:=Hn I1 r1 ty;refine⟨T,id,pa,slot,pT,h1,h2,?_⟩;have hA:=ha dS pins s1 Z H1 _ I1 q1;rw[hs] at hA ⊢;refine fC (by show(false||(backTo dS (starEach es X.env)).any (·.1))=false;rw[eG]<;>rfl) (gh ?_);exact bZ hA λus s2 ⟨vs,H2,I2,r2,q2⟩=>hm pins s2 Z H2 x vs v us Q I2 r1 r2 q2
end
def xS(X:Cx)(id:String)(r:V->List V->Hp->VK->Prop):Prop :=
 ∀(pins:List (Addr×Obj)) (s:Shared) (Z:St) (H:Hp) (x:V) (xs:List V) (v:Value) (us:List Value) (Q:VK),Inv X pins Z H s->RelV x v->Vals xs us->r x xs H Q ->
  wpAny (model X.prog X.w) X.A (call (.builtin id) (v::us)) (EP X pins Z Q) X.xe s
theorem Vals.one{us:List Value}(h:Vals [x] us):∃u,us=[u]/\RelV x u:=by
 cases h with
 |cons r h =>
  cases h;exact⟨_,rfl,r⟩
theorem Vals.zero:∀{us:List Value},Vals [] us->us=[]
 |_,.nil=>rfl
theorem Vals.dropLast{xs:List V}{us:List Value}(h:Vals xs us):Vals xs.dropLast us.dropLast:=by
 induction h with
 |nil=>exact .nil
 |cons r t ih =>
  cases t with
  |nil=>exact .nil
  |cons q t'=>exact .cons r ih
theorem Vals.eraseIdx:∀{xs:List V} {us:List Value} (i:Nat),Vals xs us->Vals (xs.eraseIdx i) (us.eraseIdx i)
 |_,_,_,.nil=>.nil
 |_,_,0,.cons _ t=>t
 |_,_,i+1,.cons r t=>.cons r (Vals.eraseIdx i t)
theorem Vals.reverse{xs:List V}{us:List Value}(h:Vals xs us):Vals xs.reverse us.reverse:=by
 induction h with
 |nil=>exact .nil
 |cons r t ih=>rw[gA,gA];exact Vals.append ih (.cons r .nil)
theorem Vals.rep{xs:List V}{us:List Value}(h:Vals xs us):∀k:Nat,Vals (List.replicate k xs).flatten (List.replicate k us).flatten
 |0=>.nil
 |k+1=>by
  rw[bU,bU,cZ,cZ];exact Vals.append h (Vals.rep h k)
theorem Xt(l:List α):l.eraseIdx (l.length-1)=l.dropLast:=by
 induction l with
 |nil=>rfl
 |cons a r ih =>
  cases r with
  |nil=>rfl
  |cons b r =>
   have e:(a::b::r).length-1=((b::r).length-1)+1:=by
    have h1:(a::b::r).length=r.length+2:=rfl;have h2:(b::r).length=r.length+1:=rfl;omega
   rw[e,List.eraseIdx_cons_succ,ih]
   all_goals rfl
theorem Gb{α:Type}:∀(l:List α) (i:Nat),(l.eraseIdx i).length<=l.length
 |[],_=>aj _
 |_::_,0=>fB _
 |_::r,i+1=>Nat.succ_le_succ (Gb r i)
theorem foldl_rep(aO:List Value):∀(k:Nat) (acc:List Value),
  List.foldl (λx1 x2=>x1++x2) acc.toArray (List.replicate k aO.toArray)=(acc++(List.replicate k aO).flatten).toArray
 |0,acc=>by simp
 |k+1,acc=>by
  have e:acc.toArray++aO.toArray=(acc++aO).toArray:=by simp
  have e2:(acc++aO)++(List.replicate k aO).flatten=acc++(List.replicate (k+1) aO).flatten:=by
   rw[bU,cZ,eZ]
  rw[<- e2,<- foldl_rep aO k (acc++aO),<- e,bU,List.foldl_cons]
section
variable{l:Addr}{xs ys:List V}
theorem Inv.V8{its':List Value}{f:Array Value->Array Value}{t':Nat}(I:Inv X pins Z H s)(hH:H l=some (.lst xs))(e:s.heap.get? l=some { cls:=.type "list",data:=.seq aO.toArray n })(hf:f aO.toArray=its'.toArray)(hv:Vals ys its')(hz:ys.length<=sizeLine) :
  Inv X pins Z (upd H l (.lst ys)) { s with heap:=s.heap.update l (Obj.mapSeq f),toks:=t' }:=by
 have q:=PySem.IsL.update e f;rw[hf] at q;refine I.write (x:=l) (e:=l) (by rw[hH];exact trivial) (.inl rfl) (λb' u hb hu=>(bY s.heap (Obj.mapSeq f) (aZ hb)).trans hu) ⟨_,q⟩ ?_;exact⟨hz,its',_,hv,q⟩
theorem Inv.FF{t':Nat}(I:Inv X pins Z H s)(hv:Vals ys aO)(hz:ys.length<=sizeLine) :
  Inv X pins Z (upd H s.heap.objs.size (.lst ys)) { s with heap:=s.heap.push { cls:=.type "list",data:=.seq aO.toArray },toks:=t' } :=
 I.laid (λ_ _ q=>ah _ q) (aj _) ⟨hz,aO,0,hv,aw _ rfl⟩
theorem Inv.fresh(I:Inv X pins Z H s):H s.heap.objs.size=none:=I.bw.fresh (aj _)
theorem Inv.qy(I:Inv X pins Z H s)(hH:H l=some (.lst xs)):xs.length<=sizeLine/\∃(aO:List Value) (n:Nat),Vals xs aO/\xs.length=aO.length/\s.heap.get? l=some { cls:=.type "list",data:=.seq aO.toArray n }:=by
 obtain⟨z,aO,n,r,e⟩:=I.bw l _ hH;exact⟨z,aO,n,r,r.length,e⟩
theorem Qp(h:n<=sizeLine):Builtin.List.listTooLong n=false:=by
 unfold Builtin.List.listTooLong;exact ax (by omega)
end
def Ow:V->List V->Hp->VK->Prop:=λx vs H Q=>∃l xs y,x=.ref l/\vs=[y]/\H l=some (.lst xs)/\xs.length<sizeLine/\Q .bf (upd H l (.lst (xs++[y])))
theorem a17:xS X "list.append" Ow:=by
 intro pins s Z H x vs v us Q I rx rv h;obtain⟨l,xs,y,rfl,rfl,hH,hz,q⟩:=h;cases rx;obtain⟨u,rfl,ru⟩:=rv.one;obtain⟨z,aO,n,r,hl,e⟩:=I.qy hH;refine cW F.slot_list_append ⟨_,e,rfl⟩ F.entry_list_append (F.args_list_append_2 _ _) (PySem.list_append l aO.toArray n u (by rw[aA];omega)) ⟨e,?_⟩;refine⟨.bf,_,I.V8 (its':=aO++[u]) hH e (by simp) (r.append (.cons ru .nil)) ?_,rfl,q⟩;rw[bz,iG];omega
def Ry:V->List V->Hp->VK->Prop:=λx vs H Q=>∃l xs y,x=.ref l/\vs=[]/\H l=some (.lst xs)/\xs[xs.length-1]?=some y/\Q y (upd H l (.lst xs.dropLast))
theorem Vo:xS X "list.pop" Ry:=by
 intro pins s Z H x vs v us Q I rx rv h;obtain⟨l,xs,y,rfl,rfl,hH,hy,q⟩:=h;cases rx;have yL:=rv.zero;subst yL;obtain⟨z,aO,n,r,hl,e⟩:=I.qy hH;obtain⟨u,hu,ru⟩:=r.get hy;have yH:aO.toArray[aO.toArray.size-1]?=some u:=by
  show aO.toArray[aO.length-1]?=some u;rw[<- fh,<- hl];exact hu
 refine cW F.slot_list_pop ⟨_,e,rfl⟩ F.entry_list_pop (F.args_list_pop_1 _) (MeetsSeq.list_pop_last l aO.toArray n u yH (by rw[aA];omega)) ⟨e,?_⟩;refine⟨y,_,I.V8 (its':=aO.dropLast) hH e ?_ r.dropLast ?_,ru,q⟩
 ·show aO.toArray.eraseIdxIfInBounds (aO.toArray.size-1)=aO.dropLast.toArray;rw[aA,kE,Xt]
 ·rw[List.length_dropLast];omega
def Wc:V->List V->Hp->VK->Prop:=λx vs H Q=>∃l xs i k y,x=.ref l/\vs=[.int i]/\H l=some (.lst xs)/\-(2 ^ 63)<=i/\i<2 ^ 63/\seqIndex? i xs.length=some k/\xs[k]?=some y/\Q y (upd H l (.lst (xs.eraseIdx k)))
theorem Qm:xS X "list.pop" Wc:=by
 intro pins s Z H x vs v us Q I rx rv h;obtain⟨l,xs,i,k,y,rfl,rfl,hH,h1,h2,hk,hy,q⟩:=h;cases rx;obtain⟨u,rfl,ru⟩:=rv.one;obtain⟨t,rfl⟩:=ru;obtain⟨z,aO,n,r,hl,e⟩:=I.qy hH;obtain⟨w,hw,eW⟩:=r.get hy;refine cW F.slot_list_pop ⟨_,e,rfl⟩ F.entry_list_pop (F.args_list_pop_2 _ _)
  (MeetsSeq.list_pop_at l aO.toArray n i t k w (fitsIndex_both h1 h2) (by rw[aA,<- hl];exact hk) (by rw[<- fh];exact hw) (by rw[aA];omega)) ⟨e,?_⟩
 refine⟨y,_,I.V8 (its':=aO.eraseIdx k) hH e ?_ (r.eraseIdx k) ?_,eW,q⟩
 ·show aO.toArray.eraseIdxIfInBounds k=(aO.eraseIdx k).toArray;rw[kE]
 ·have:=Gb xs k;omega
def Wb:V->List V->Hp->VK->Prop:=λx vs H Q=>∃l xs,x=.ref l/\vs=[]/\H l=some (.lst xs)/\Q .bf (upd H l (.lst []))
theorem Ql:xS X "list.clear" Wb:=by
 intro pins s Z H x vs v us Q I rx rv h;obtain⟨l,xs,rfl,rfl,hH,q⟩:=h;cases rx;have yL:=rv.zero;subst yL;obtain⟨z,aO,n,r,hl,e⟩:=I.qy hH;refine cW F.slot_list_clear ⟨_,e,rfl⟩ F.entry_list_clear (F.args_list_clear_1 _) (AutoSeq1.list_clear_list_0 l aO.toArray n (by rw[aA];omega)) ⟨e,?_⟩;exact⟨.bf,_,I.V8 (its':=[]) (ys:=[]) hH e rfl .nil (bX _),rfl,q⟩
def Ru:R2:=λx y H Q=>∃l b xs zs,x=.ref l/\y=.ref b/\H l=some (.lst xs)/\H b=some (.lst zs)/\xs.length+zs.length<=sizeLine/\∀p,H p=none->Q (.ref p) (upd H p (.lst (xs++zs)))
theorem Vu:fu X (binaryOp .Add) Ru:=by
 intro pins s Z H x y v u Q I rx ry h;obtain⟨l,b,xs,zs,rfl,rfl,hH,hB,hz,q⟩:=h;cases rx;cases ry;obtain⟨z,aO,n,r,hl,e⟩:=I.qy hH;obtain⟨z2,mj,n2,r2,rB,e2⟩:=I.qy hB;refine PySem.P.add_list e e2 ?_ (by rw[aA,aA];omega);have ea:aO.toArray++mj.toArray=(aO++mj).toArray:=by simp
 rw[ea];exact⟨.ref _,_,I.FF (t':=s.toks) (r.append r2) (by rw[bz];omega),rfl,q _ I.fresh⟩
def Rz:R2:=λx y H Q=>∃l k xs,x=.ref l/\y=.int k/\H l=some (.lst xs)/\-(2 ^ 63)<=k/\k<2 ^ 63/\xs.length*k.toNat<=sizeLine /\
 ∀p,H p=none->Q (.ref p) (upd H p (.lst (List.replicate k.toNat xs).flatten))
theorem len_rep(xs:List α)(k:Nat):(List.replicate k xs).flatten.length=k*xs.length:=by
 induction k with
 |zero=>simp
 |succ k ih=>rw[bU,cZ,bz,ih,Nat.succ_mul,Nat.add_comm]
theorem Vz:fu X (binaryOp .Mult) Rz:=by
 intro pins s Z H x y v u Q I rx ry h;obtain⟨l,k,xs,rfl,rfl,hH,h1,h2,hz,q⟩:=h;cases rx;obtain⟨t,rfl⟩:=ry;obtain⟨z,aO,n,r,hl,e⟩:=I.qy hH;have hlen:aO.toArray.size*k.toNat<=sizeLine:=by rw[aA,<- hl];exact hz
 have zc:¬aO.toArray.size*k.toNat>(2 ^ 63-1) / 8:=by
  have:(sizeLine:Nat)<=(2 ^ 63-1) / 8:=by decide
  omega
 have za:¬(!Builtin.List.listFitsIndex k)=true:=by
  rw[fitsIndex_both h1 h2];exact bA
 have tO:¬Builtin.List.listTooLong (aO.toArray.size*k.toNat)=true:=by
  rw[Qp hlen];exact bA
 have pX:List.foldl (λx1 x2=>x1++x2) #[] (List.replicate (if aO.toArray.isEmpty=true then 0 else k.toNat) aO.toArray)=(List.replicate k.toNat aO).flatten.toArray:=by
  have f0:∀m:Nat,List.foldl (λx1 x2=>x1++x2) #[] (List.replicate m aO.toArray)=(List.replicate m aO).flatten.toArray:=λm=>by
   have:=foldl_rep aO m [];rw[List.nil_append] at this;exact this
  rw[f0];cases aO with
  |nil=>simp
  |cons a r'=>rw[if_neg (by simp)]
 refine CP (T:="list") (U:="int") (by decide) ⟨_,e,rfl⟩ (λs'=>lM s' k t) noFill_list_mul F.fills_int_mul jC repeat_list F.slot_int_index.lookup
  (cW jC (lM s k t) F.entry_int_rmul (F.args_int_rmul_2 _ _) (int___rmul___int_list k t l aO.toArray n)
   ⟨e,rfl,⟨_,e,rfl⟩,cW F.slot_list_mul ⟨_,e,rfl⟩ F.entry_list_mul (F.args_list_mul_2 _ _) (AutoListH.list___mul___list_int_3 l aO.toArray n k t za zc tO) ⟨e,?_⟩⟩)
 rw[pX];exact⟨.ref _,_,I.FF (t':=s.toks) (r.rep k.toNat) (by rw[len_rep,sD];exact hz),rfl,q _ I.fresh⟩
section
variable{κ:Type}[DecidableEq κ]
def N4(kvs:List (κ×V))(k:κ):Option V:=(kvs.find? λkv=>decide (kv.1=k)).map (·.2)
def putK(kvs:List (κ×V))(k:κ)(v:V):List (κ×V) :=
 if(kvs.any λkv=>decide (kv.1=k))=true then kvs.map (λkv=>if kv.1=k then(kv.1,v) else kv) else kvs++[(k,v)]
def qJ(kvs:List (κ×V))(k:κ):List (κ×V):=kvs.filter λkv=>decide (kv.1≠k)
theorem Bh{p:κ×V}{r:List (κ×V)}{k:κ}(e:p.1=k):N4 (p::r) k=some p.2:=by simp[N4,List.find?_cons,e]
theorem Bg{p:κ×V}{r:List (κ×V)}{k:κ}(e:¬p.1=k):N4 (p::r) k=N4 r k:=by simp[N4,List.find?_cons,e]
theorem IG(k:κ):∀kvs:List (κ×V),(kvs.any λkv=>decide (kv.1=k))=(N4 kvs k).isSome
 |[]=>rfl
 |p::r=>by
  rw[fz];by_cases e:p.1=k
  ·simp only[Bh e,decide_eq_true e,Bool.true_or,Option.isSome_some]
  ·rw[Bg e,ax e,Bool.false_or];exact IG k r
theorem R6(kvs:List (κ×V))(k:κ)(v:V):(putK kvs k v).length<=kvs.length+1:=by
 unfold putK;split
 ·rw[ao];omega
 ·rw[bz,cM,List.length_nil];omega
theorem E1.S5{u:Option Value}(r:E1 o u):o.isSome=u.isSome:=by
 cases o with
 |none=>cases u with
  |none=>rfl
  |some _=>exact(show False from r).elim
 |some _=>cases u with
  |none=>exact(show False from r).elim
  |some _=>rfl
theorem E1.getD{o:Option V}{u:Option Value}{d:V}{d':Value}(r:E1 o u)(rd:RelV d d'):RelV (o.getD d) (u.getD d'):=by
 cases o with
 |none=>cases u with
  |none=>exact rd
  |some _=>exact(show False from r).elim
 |some _=>cases u with
  |none=>exact(show False from r).elim
  |some _=>exact r
theorem KV.val{kvs:List (κ×V)}{vs:List (κ×Value)}(r:KV kvs vs)(k:κ):E1 (N4 kvs k) (valueAt vs k):=by
 unfold KV at r
 induction r with
 |nil=>exact True.intro
 |@cons p q ps qs h t ih =>
  obtain⟨h1,h2⟩:=h;by_cases e:p.1=k
  ·have e':q.1=k:=h1.symm.trans e;have b:valueAt (q::qs) k=some q.2:=by simp[valueAt,List.find?_cons,e']
   rw[Bh e,b];exact h2
  ·have e':¬q.1=k:=λz=>e (h1.trans z);have b:valueAt (q::qs) k=valueAt qs k:=by simp[valueAt,List.find?_cons,e']
   rw[Bg e,b];exact ih
theorem KV.any{kvs:List (κ×V)}{vs:List (κ×Value)}(r:KV kvs vs)(k:κ):(kvs.any λkv=>decide (kv.1=k))=vs.any λkv=>decide (kv.1=k):=by
 unfold KV at r
 induction r with
 |nil=>rfl
 |cons h t ih=>rw[fz,fz,ih,h.1]
theorem KV.Cy{kvs:List (κ×V)}{vs:List (κ×Value)}(r:KV kvs vs)(k:κ)(ry:RelV y u) :
  KV (kvs.map λkv=>if kv.1=k then(kv.1,y) else kv) (vs.map λkv=>if kv.1=k then(kv.1,u) else kv):=by
 unfold KV at r ⊢
 induction r with
 |nil=>exact .nil
 |@cons p q ps qs h t ih =>
  rw[bc,bc];refine .cons ?_ ih;obtain⟨h1,h2⟩:=h;by_cases e:p.1=k
  ·rw[aG e,aG (h1.symm.trans e)];exact⟨h1,ry⟩
  ·rw[az e,az (λz=>e (h1.trans z))];exact⟨h1,h2⟩
theorem KV.put{kvs:List (κ×V)}{vs:List (κ×Value)}(r:KV kvs vs)(k:κ)(ry:RelV y u):KV (putK kvs k y) (stored vs k u):=by
 unfold putK stored;rw[r.any k];by_cases e:(vs.any λkv=>decide (kv.1=k))=true
 ·rw[aG e,aG e];exact r.Cy k ry
 ·rw[az e,az e];exact Paired.snoc r ⟨rfl,ry⟩
theorem KV.drop{kvs:List (κ×V)}{vs:List (κ×Value)}(r:KV kvs vs)(k:κ):KV (qJ kvs k) (without vs k):=by
 unfold KV at r ⊢;unfold qJ without
 induction r with
 |nil=>exact .nil
 |@cons p q ps qs h t ih =>
  obtain⟨h1,h2⟩:=h;rw[dt,dt];by_cases e:p.1=k
  ·have a:¬decide (p.1≠k)=true:=by simp[e]
   have b:¬decide (q.1≠k)=true:=by simp[h1.symm.trans e]
   rw[az a,az b];exact ih
  ·have e':¬q.1=k:=λz=>e (h1.trans z);have a:decide (p.1≠k)=true:=by simp[e]
   have b:decide (q.1≠k)=true:=by simp[e']
   rw[aG a,aG b];exact .cons ⟨h1,h2⟩ ih
theorem KV.keys{kvs:List (κ×V)}{vs:List (κ×Value)}(r:KV kvs vs):kvs.map (·.1)=vs.map (·.1):=by
 unfold KV at r
 induction r with
 |nil=>rfl
 |cons h t ih=>rw[bc,bc,ih,h.1]
theorem KV.length{kvs:List (κ×V)}{vs:List (κ×Value)}(r:KV kvs vs):kvs.length=vs.length:=lE r
theorem PK(kvs:List (κ×V))(k:κ):(qJ kvs k).length<=kvs.length:=dI _ _
end
theorem Y6{k:Key}(r:RelV (kV k) u):(i8 P w).is k u=true:=by
 cases k with
 |inl i=>obtain⟨t,e⟩:=(show ∃t,u=Value.int i t from r);subst e;exact YD P w i t
 |inr x=>obtain⟨t,e⟩:=(show ∃t,u=Value.str x t from r);subst e;exact YE P w x t
theorem Ga{P:Program}{w:World}:∀{ks:List Key} {us:List Value},Vals (ks.map kV) us->ItemsAre (i8 P w) ks us
 |[],_,r=>by rw[sG] at r;cases r;exact .nil
 |k::ks,_,r=>by
  rw[bc] at r;cases r with
  |cons h t=>exact .cons (Y6 h) (Ga t)
noncomputable abbrev KT(H:Hp):List (List Key×V)->List (List Key×Addr×Value)->Prop:=Paired λp q=>p.1=q.1/\H q.2.1=some (.tup (p.1.map kV))/\RelV p.2 q.2.2
theorem KT.val{xs:List (List Key×Addr×Value)}(r:KT H kvs xs)(k:List Key):E1 (N4 kvs k) ((atKey xs k).map (·.2)):=by
 induction r with
 |nil=>exact True.intro
 |@cons p q ps qs h t ih =>
  obtain⟨h1,_,h2⟩:=h;by_cases e:p.1=k
  ·have e':q.1=k:=h1.symm.trans e;have b:atKey (q::qs) k=some q.2:=by simp[atKey,List.find?_cons,e']
   rw[Bh e,b];exact h2
  ·have e':¬q.1=k:=λz=>e (h1.trans z);have b:atKey (q::qs) k=atKey qs k:=by simp[atKey,List.find?_cons,e']
   rw[Bg e,b];exact ih
theorem KT.Cy{xs:List (List Key×Addr×Value)}(r:KT H kvs xs)(k:List Key)(ry:RelV y u) :
  KT H (kvs.map λkv=>if kv.1=k then(kv.1,y) else kv) (xs.map (putAt k u)):=by
 induction r with
 |nil=>exact .nil
 |@cons p q ps qs h t ih =>
  rw[bc,bc];refine .cons ?_ ih;obtain⟨h1,h2,h3⟩:=h;unfold putAt;by_cases e:p.1=k
  ·rw[aG e,aG (h1.symm.trans e)];exact⟨h1,h2,ry⟩
  ·rw[az e,az (λz=>e (h1.trans z))];exact⟨h1,h2,h3⟩
theorem KT.put{xs:List (List Key×Addr×Value)}(r:KT H kvs xs)(k:List Key){b:Addr}(hb:H b=some (.tup (k.map kV)))(ry:RelV y u) :
  KT H (putK kvs k y) (storedH xs k b u):=by
 have e:(kvs.any λkv=>decide (kv.1=k))=(atKey xs k).isSome:=by
  rw[IG,(r.val k).S5,gz]
 unfold putK storedH;rw[e];by_cases q:(atKey xs k).isSome=true
 ·rw[aG q,aG q];exact r.Cy k ry
 ·rw[az q,az q];exact Paired.snoc r ⟨rfl,hb,ry⟩
theorem KT.keeps{xs:List (List Key×Addr×Value)}(r:KT H kvs xs)(ht:∀b ys,H b=some (.tup ys)->H' b=some (.tup ys)):KT H' kvs xs :=
 Paired.FG r λ_ _ z=>⟨z.1,ht _ _ z.2.1,z.2.2⟩
section
variable{h:Heap}
theorem Fe{u:HO}(ok:fR P w H h)(e:Rd H a u):m4 P w H h a u:=e.ok ok
theorem rZ{kvs:List (Key×V)}(ok:fR P w H h)(e:Rd H a (.dK kvs)):kvs.length<=sizeLine/\(a==sysModules)=false/\∃vs,KV kvs vs/\h.DictOf (i8 P w) a vs :=
 show m4 P w H h a (.dK kvs) from Fe ok e
theorem rY{kvs:List (Key×V)}(ok:fR P w H h)(e:H a=some (.dK kvs)):kvs.length<=sizeLine/\(a==sysModules)=false/\∃vs,KV kvs vs/\h.DictOf (i8 P w) a vs:=rZ ok (.inl e)
theorem vb{ks:List Key}(ok:fR P w H h)(e:H a=some (.tup (ks.map kV))):(tupleKind (i8 P w)).is h ks a:=by
 obtain⟨_,aO,r,o,h1,h2,⟨n,h3⟩,_⟩:=(show m4 P w H h a (.tup (ks.map kV)) from ok a _ e)
 exact⟨o,aO.toArray,n,h1,h2,h3,by simpa using Ga r⟩
theorem uP(ok:fR P w H h)(e:Rd H a (.dT kvs)):kvs.length<=sizeLine/\(a==sysModules)=false /\
  ∃xs,KT H kvs xs/\h.DictOfH (tupleKind (i8 P w)) a xs:=by
 obtain⟨z,y,xs,r,o,es,ep,h1,h2,h3,h4,h5⟩:=(show m4 P w H h a (.dT kvs) from Fe ok e)
 refine⟨z,y,xs,r,o,es,ep,h1,h2,h3,h4,λx hx=>?_,h5⟩;have all:∀{l:List (List Key×V)} {m:List (List Key×Addr×Value)},KT H l m->∀x∈m,(tupleKind (i8 P w)).is h x.1 x.2.1:=by
  intro l m q
  induction q with
  |nil=>intro x hx;exact nomatch hx
  |@cons p q ps qs hq t ih =>
   intro x hx;rcases ay.mp hx with e|hx
   ·subst e;exact vb ok (by rw[<- hq.1];exact hq.2.1)
   ·exact ih x hx
 exact all r x hx
theorem SN(ok:fR P w H h)(e:H a=some (.dT kvs)):kvs.length<=sizeLine/\(a==sysModules)=false /\
  ∃xs,KT H kvs xs/\h.DictOfH (tupleKind (i8 P w)) a xs:=uP ok (.inl e)
end
def Z9(H:Hp)(a:Addr)(y:V)(r:Option V):Prop :=
 (∃kvs k,Rd H a (.dK kvs)/\y=kV k/\r=N4 kvs k)\/∃kvs k b,Rd H a (.dT kvs)/\y=.ref b/\H b=some (.tup (k.map kV))/\r=N4 kvs k
def xp(H:Hp)(a:Addr)(y v:V)(H':Hp):Prop :=
 (∃kvs k,H a=some (.dK kvs)/\y=kV k/\kvs.length<sizeLine/\H'=upd H a (.dK (putK kvs k v))) \/
 ∃kvs k b,H a=some (.dT kvs)/\y=.ref b/\H b=some (.tup (k.map kV))/\kvs.length<sizeLine/\H'=upd H a (.dT (putK kvs k v))
theorem Z9.k{H:Hp}{a:Addr}{kvs:List (Key×V)}{k:Key}(e:H a=some (.dK kvs)):Z9 H a (kV k) (N4 kvs k):=.inl ⟨kvs,k,.inl e,rfl,rfl⟩
theorem xp.k{H:Hp}{a:Addr}{kvs:List (Key×V)}{k:Key}{v:V}(e:H a=some (.dK kvs))(hl:kvs.length<sizeLine):xp H a (kV k) v (upd H a (.dK (putK kvs k v))):=.inl ⟨kvs,k,e,rfl,hl,rfl⟩
section
variable{v:V}{r:Value}
theorem Inv.big(I:Inv X pins Z H s):sysModules<s.heap.objs.size:=by
 have h:mainGlobals<s.heap.objs.size:=(I.mod.glob.keeps I.bk).lt;exact cu (by decide) h
theorem a45{Q:Value->Shared->Prop}(hu:A.units+1<cLine)(I:Inv X pins Z H s)(g:Z9 H a y (some v))(ry:RelV y u)(h:∀w' s',Inv X pins Z H s'->RelV v w'->Q w' s') :
  wpAny (model X.prog X.w) A (getItem (.ref a) u) Q E s:=by
 rcases g with⟨kvs,k,e,ey,l⟩|⟨kvs,k,b,e,ey,eb,l⟩
 ·subst ey;obtain⟨z,hd,vs,rel,dd⟩:=rZ I.bw e;obtain⟨w',hw,eW⟩:=E1.some_of (v:=v) (o:=valueAt vs k) (by rw[l];exact rel.val k);exact wpAny_getItem_of (Y6 ry) dd.mapOf hw (h w' _ (I.tok _) eW)
 ·subst ey;cases (show u=Value.ref b from ry);obtain⟨z,hd,xs,rel,dd⟩:=uP I.bw e;obtain⟨w',hw,eW⟩:=E1.some_of (v:=v) (o:=(atKey xs k).map (·.2)) (by rw[l];exact rel.val k);obtain⟨p,hp,oK⟩:=ae.mp hw;refine wpAny_getItem_heap (gT hu) (vb I.bw eb) dd hp ?_;rw[oK];exact h w' _ (I.tok _) eW
theorem QJ{Q:Value->Shared->Prop}(hu:A.units+1<cLine)(I:Inv X pins Z H s)(g:Z9 H a y o)(ry:RelV y u)(h:∀s',Inv X pins Z H s'->Q (.bool o.isSome) s') :
  wpAny (model X.prog X.w) A (compareOp .In u (.ref a)) Q E s:=by
 rcases g with⟨kvs,k,e,ey,l⟩|⟨kvs,k,b,e,ey,eb,l⟩
 ·subst ey;obtain⟨z,hd,vs,rel,dd⟩:=rZ I.bw e;refine wpAny_in_of (Y6 ry) hd dd.mapOf ?_;rw[<- (rel.val k).S5,<- l];exact h _ (I.tok _)
 ·subst ey;cases (show u=Value.ref b from ry);obtain⟨z,hd,xs,rel,dd⟩:=uP I.bw e;refine wpAny_in_heap (gT hu) (vb I.bw eb) hd dd ?_;have q:=(rel.val k).S5;rw[gz] at q;rw[<- q,<- l];exact h _ (I.tok _)
theorem Nk{Q:Value->Shared->Prop}(hu:A.units+1<cLine)(I:Inv X pins Z H s)(g:Z9 H a y o)(ry:RelV y u)(h:∀s',Inv X pins Z H s'->Q (.bool (!o.isSome)) s') :
  wpAny (model X.prog X.w) A (compareOp .NotIn u (.ref a)) Q E s:=by
 rcases g with⟨kvs,k,e,ey,l⟩|⟨kvs,k,b,e,ey,eb,l⟩
 ·subst ey;obtain⟨z,hd,vs,rel,dd⟩:=rZ I.bw e;refine wpAny_notIn_of (Y6 ry) hd dd.mapOf ?_;rw[<- (rel.val k).S5,<- l];exact h _ (I.tok _)
 ·subst ey;cases (show u=Value.ref b from ry);obtain⟨z,hd,xs,rel,dd⟩:=uP I.bw e;refine wpAny_notIn_heap (gT hu) (vb I.bw eb) hd dd ?_;have q:=(rel.val k).S5;rw[gz] at q;rw[<- q,<- l];exact h _ (I.tok _)
theorem Q3{h':Heap}{t':Nat}{ob:HO}(I:Inv X pins Z H s)(mu:vE (H a))(hs:Heap.SameBut a s.heap h')(he:∃q,h'.get? a=some q)(new:m4 X.prog X.w (upd H a ob) h' a ob) :
  Inv X pins Z (upd H a ob) { s with heap:=h',toks:=t' } :=
 I.write (x:=a) (e:=a) mu (.inl rfl) (λb q hb z=>(hs.2 b hb).trans z) he new
theorem va{h':Heap}{kvs:List (Key×V)}{vs:List (Key×Value)}(z:kvs.length<=sizeLine)(hd:(a==sysModules)=false)(rel:KV kvs vs)(dd:h'.DictOf (i8 P w) a vs) :
  m4 P w H' h' a (.dK kvs):=⟨z,hd,vs,rel,dd⟩
theorem a44{Q:Unit->Shared->Prop}(hu:A.units+1<cLine)(I:Inv X pins Z H s)(g:xp H a y v H')(ry:RelV y u)(rv:RelV v r)(h:∀s',Inv X pins Z H' s'->Q () s') :
  wpAny (model X.prog X.w) A (setItem (.ref a) u r) Q E s:=by
 rcases g with⟨kvs,k,e,ey,l,eH⟩|⟨kvs,k,b,e,ey,eb,l,eH⟩
 ·subst ey eH;obtain⟨z,hd,vs,rel,dd⟩:=rY I.bw e;have hz:vs.length<=sizeLine:=by rw[<- rel.length];exact z
  have hl:(putK kvs k v).length<=sizeLine:=by have:=R6 kvs k v;omega
  refine wpAny_setItem_pairs (hsz:=hz) (Y6 ry) dd λh' nc hs=>h _ ?_;have he:∃q,h'.get? a=some q:=let ⟨q,_,_,hq,_⟩:=nc;⟨q,hq⟩
  exact Q3 I (by rw[e];exact True.intro) hs he (va hl hd (rel.put k rv) nc)
 ·subst ey eH;cases (show u=Value.ref b from ry);obtain⟨z,hd,xs,rel,dd⟩:=SN I.bw e;have hz:xs.length<=sizeLine:=by rw[<- lE rel];exact z
  have hl:(putK kvs k v).length<=sizeLine:=by have:=R6 kvs k v;omega
  refine wpAny_setItem_heap (hsz:=hz) (gT hu) (vb I.bw eb) dd λh' nc hs=>h _ ?_;obtain⟨q,es,ep,hq,h2,h3,h4,_,h5⟩:=nc;refine Q3 I (by rw[e];exact True.intro) hs ⟨q,hq⟩ ⟨hl,hd,_,(rel.put k eb rv).keeps λc ys ec=>?_,q,es,ep,hq,h2,h3,h4,h5⟩;rw[d0 (Tu ec e (λz=>nomatch z))];exact ec
end
section
variable{kvs:List (Key×V)}{k:Key}
theorem SI{v:V}{more:List Value}{Q:Value->Shared->Prop}(I:Inv X pins Z H s)(e:H a=some (.dK kvs))(ry:RelV (kV k) u)(l:N4 kvs k=some v)(hm:more=[]\/∃x,more=[x])(h:∀w' s',Inv X pins Z (upd H a (.dK (qJ kvs k))) s'->RelV v w'->Q w' s'):wpAny (model X.prog X.w) A (call (.builtin "dict.pop") (.ref a::u::more)) Q E s:=by
 obtain⟨z,hd,vs,rel,dd⟩:=rY I.bw e;obtain⟨w',hw,eW⟩:=E1.some_of (v:=v) (o:=valueAt vs k) (by rw[<- l];exact rel.val k);have hp:(keyPart u).isSome=true:=by
  cases k with
  |inl i=>obtain⟨t,q⟩:=(show ∃t,u=Value.int i t from ry);subst q;rfl
  |inr x=>obtain⟨t,q⟩:=(show ∃t,u=Value.str x t from ry);subst q;rfl
 have ha:argsOk "dict.pop" ⟨.ref a::u::more,[]⟩:=by
  rcases hm with q|⟨x,q⟩
  ·subst q;exact PySem.F.args_dict_pop_2 _ _
  ·subst q;exact PySem.F.args_dict_pop_3 _ _ _
 refine call_meetsIn vN dd.typeIs PySem.F.entry_dict_pop ha (meets_dict_pop_there (i8 X.prog X.w) a (Y6 ry) more hm hp)
  ⟨vs,w',dd,by rw[<- rel.length];exact z,hw,λh' nc hs=>h w' _ ?_ eW⟩
 have he:∃q,h'.get? a=some q:=let ⟨q,_,_,hq,_⟩:=nc;⟨q,hq⟩
 exact Q3 I (by rw[e];exact True.intro) hs he (va (aJ (PK kvs k) z) hd (rel.drop k) nc)
theorem SH{Q:Value->Shared->Prop}(I:Inv X pins Z H s)(e:Rd H a (.dK kvs))(h:∀t s',Inv X pins Z H s'->Q (.int kvs.length t) s'):wpAny (model X.prog X.w) A (call (.builtin "len") [.ref a]) Q E s:=by
 obtain⟨z,hd,vs,rel,dd⟩:=rZ I.bw e;refine call_len_dict hd dd (by rw[<- rel.length];rw[ka] at z;omega) ?_;rw[<- rel.length];exact h _ _ (I.tok _)
end
theorem Yo(I:Inv X pins Z H s)(g:Z9 H a y o):s.TypeIs (.ref a) "dict":=by
 rcases g with⟨kvs,k,e,_,_⟩|⟨kvs,k,b,e,_,_,_⟩
 ·obtain⟨_,_,vs,_,dd⟩:=rZ I.bw e;exact dd.typeIs
 ·obtain⟨_,_,xs,_,dd⟩:=uP I.bw e;exact dd.typeIs
theorem Ij(h:Heap)(hb:sysModules<h.objs.size):m4 P w H (h.push { cls:=.type "dict",data:=.dict #[] }) h.objs.size (.dK []) :=
 ⟨bX _,dh.mpr (aZ (aI hb)),[],.nil,Heap.DictOf.new h⟩
def MG:TE:=λ_ H Q=>∀p,H p=none->Q (.ref p) (upd H p (.dK []))
theorem Qv:PE X (.Dict [] [] pos) MG:=λpins s Z H Q I h =>
 wpAny_Dict_empty ⟨.ref s.heap.objs.size,_,I.laid (a:=s.heap.objs.size) (o:=.dK []) (t':=s.toks) (λ_ _ q=>ah _ q) (aj _) (Ij s.heap I.big),rfl,h _ (I.bw.fresh (aj _))⟩
def wK:List (TE×TE)->St->Hp->(List (V×V)->Hp->Prop)->Prop
 |[],_,H,Q=>Q [] H
 |(tk,tv)::r,Z,H,Q=>tk Z H λx H1=>tv Z H1 λy H2=>wK r Z H2 λps H3=>Q ((x,y)::ps) H3
noncomputable abbrev VV:List (V×V)->List (Value×Value)->Prop:=Paired λp q=>RelV p.1 q.1/\RelV p.2 q.2
def vC(X:Cx)(pos:Pos)(keys:List (Option Expr))(values:List Expr)(hX:List (TE×TE)):Prop :=
 ∀(pins:List (Addr×Obj)) (s:Shared) (Z:St) (H:Hp) (Q:List (V×V)->Hp->Prop),Inv X pins Z H s->wK hX Z H Q ->
  wpAny (model X.prog X.w) X.A (evalPairs (pairTrees keys values X.env pos)) (λvs s'=>∃ps H',Inv X pins Z H' s'/\VV ps vs/\Q ps H') X.xe s
theorem Oj:vC X pos [] [] []:=λpins s Z H Q I h=>pairTrees_nil_walk ⟨[],H,I,.nil,h⟩
theorem Zq{k v:Expr}{ks:List (Option Expr)}{vs:List Expr}{tk tv:TE}{hX:List (TE×TE)}(hk:PE X k tk)(hv:PE X v tv)(hr:vC X pos ks vs hX) :
  vC X pos (some k::ks) (v::vs) ((tk,tv)::hX):=λpins s Z H Q I h =>
 pairTrees_cons_walk (bZ (hk pins s Z H _ I h) λu s1 ⟨x,H1,I1,rx,q1⟩=>bZ (hv pins s1 Z H1 _ I1 q1) λw2 s2 ⟨y,H2,I2,ry,q2⟩ =>
  bZ (hr pins s2 Z H2 _ I2 q2) λws s3 ⟨ps,H3,I3,rel,q3⟩=>⟨(x,y) :: ps,H3,I3,.cons ⟨rx,ry⟩ rel,q3⟩)
def V3(kvs more:List (Key×V)):List (Key×V):=more.foldl (λacc kv=>putK acc kv.1 kv.2) kvs
theorem KV.merge:∀{more:List (Key×V)} {rs:List (Key×Value)} {kvs:List (Key×V)} {vs:List (Key×Value)},KV more rs->KV kvs vs->KV (V3 kvs more) (merged vs rs):=by
 intro more rs kvs vs r;unfold KV at r
 induction r generalizing kvs vs with
 |nil=>intro q;exact q
 |@cons p q ps qs h t ih =>
  intro r0;have e:KV (putK kvs p.1 p.2) (stored vs q.1 q.2):=by
   have:=r0.put p.1 h.2;rw[<- h.1];exact this
  exact ih e
theorem Ha:∀(more kvs:List (Key×V)),(V3 kvs more).length<=kvs.length+more.length
 |[],kvs=>by show kvs.length<=kvs.length+0;omega
 |p::r,kvs=>by
  have h1:=Ha r (putK kvs p.1 p.2);have h2:=R6 kvs p.1 p.2;show(V3 (putK kvs p.1 p.2) r).length<=_;rw[cM];omega
theorem Gs{P:Program}{w:World}:∀{kvs:List (Key×V)} {ws:List (Value×Value)},VV (kvs.map λkv=>(kV kv.1,kv.2)) ws->∃rs,Carries (i8 P w) ws rs/\KV kvs rs
 |[],_,r=>by rw[sG] at r;cases r;exact⟨[],True.intro,.nil⟩
 |p::kvs,_,r=>by
  rw[bc] at r;cases r with
  |@cons a b as bs h t =>
   obtain⟨rs,c,q⟩:=Gs (P:=P) (w:=w) t;obtain⟨b1,b2⟩:=b;exact⟨(p.1,b2)::rs,⟨Y6 h.1,rfl,c⟩,.cons ⟨rfl,h.2⟩ q⟩
def Up(hX:List (TE×TE)):TE:=λZ H Q=>∀p,H p=none->wK hX Z (upd H p (.dK [])) λps H2=>H2 p=some (.dK [])/\∃kvs:List (Key×V),ps=kvs.map (λkv=>(kV kv.1,kv.2))/\kvs.length<=15/\Q (.ref p) (upd H2 p (.dK (V3 [] kvs)))
theorem Ob{keys:List (Option Expr)}{values:List Expr}{hX:List (TE×TE)}(h:vC X pos keys values hX)(jS:keys.all (·.isSome)=true)(hl:keys.length=values.length)(h0:keys≠[])(zV:keys.length<=15):PE X (.Dict keys values pos) (Up hX):=by
 intro pins s Z H Q I q;have hn:=I.bw.fresh (aj s.heap.objs.size);have I1:=I.laid (a:=s.heap.objs.size) (o:=.dK []) (h':=s.heap.push { cls:=.type "dict",data:=.dict #[] }) (t':=s.toks) (λ_ _ q=>ah _ q) (aj _) (Ij s.heap I.big);refine wpAny_Dict_walk (knd:=i8 X.prog X.w) jS hl h0 zV (bZ (h pins _ Z _ _ I1 (q _ hn)) λws s2 aT=>?_);obtain⟨ps,H2,I2,rel,e,kvs,ep,lk,q2⟩:=aT;subst ep;obtain⟨rs,c,rk⟩:=Gs (P:=X.prog) (w:=X.w) rel;obtain⟨z,hd,vs0,r0,dd⟩:=rY I2.bw e;cases r0;refine⟨rs,c,dd,λh' nc hs=>⟨.ref s.heap.objs.size,_,?_,rfl,q2⟩⟩;have hz:(V3 [] kvs).length<=sizeLine:=by
  have h1:=Ha kvs [];rw[List.length_nil] at h1;rw[ka];omega
 have he:∃q,h'.get? s.heap.objs.size=some q:=let ⟨q,_,_,hq,_⟩:=nc;⟨q,hq⟩
 exact Q3 I2 (by rw[e];exact True.intro) hs he (va hz hd (rk.merge .nil) nc)
end L2
namespace Jh
open PySem PySem.W PySem.Calls PyProof.Rows
theorem WN{P:Params}{h:Heap}:∀(ns:List Int) (vs:List Value),WellAll P h vs (ns.map WData.int)->IntsAre vs ns:=by
 intro ns
 induction ns with
 |nil =>
  intro vs w;rw[sG] at w;cases w;exact .nil
 |cons n ns ih =>
  intro vs w;rw[bc] at w;cases w with
  |cons a b =>
   cases a;exact .cons _ _ (ih _ b)
theorem Xc{l:OpenLaw}{n:Nat}(hn:l.most=some n){P:Params}{h:Heap}{args:List WData}{vals:List Value}(nK:l.row.toRowW.claim.pre args=true)(yJ:WellAll P h vals args) :
  ∃a vs ns,vals=[Value.ref a]/\args=[WData.list (ns.map WData.int)]/\h.get? a=some { cls:=.type "list",data:=.seq vs.toArray }/\IntsAre vs ns/\ns.length<=n:=by
 have Kp:WShape.hasAll [] args [.list .int]=true:=(pre_splitW nK).1;have hc:l.pre.holds [] { args:=args }=true:=(pre_splitW nK).2;obtain⟨d,r,rfl,h1,h2⟩:=hasAllW_cons Kp;obtain rfl:=hasAllW_nil h2;obtain⟨xs,rfl,h3⟩:=hasW_list h1;obtain⟨ns,rfl⟩:=items_int h3;have hlen:ns.length<=n:=by
  unfold OpenLaw.pre at hc;have h4:(WTm.not (.lt (.lit (.int (n:Int))) (.len (.arg 0)))).holds [] { args:=[.list (ns.map .int)] }=true:=by
   have h4:=(holds_andW hc).1;rw[hn] at h4;exact h4
  have h5:=condW_of h4 (w_not (w_lt w_lit (w_len_list (w_arg rfl))));rw[ao] at h5;refine kS λq=>?_;have q':(n:Int)<((ns.length:Nat):Int):=by omega
  first
   |(rw[aL q'] at h5;exact absurd h5 (by decide))
   |(simp at h5;omega)
 cases yJ with
 |cons w1 w2 =>
  cases w2;cases w1 with
  |list ho jS=>exact⟨_,_,ns,rfl,rfl,ho,WN ns _ jS,hlen⟩
theorem WY(l:OpenLaw)(args:List WData):l.row.toRowW.claim.post args (.bool true) args=true :=
 postW_of (r:=l.row.toRowW) (X:=(true==true))
  (show WShape.has [] (.bool true) .bool=true by first|rfl|decide|simp[WShape.has,WShape.arms,WShape.armsAll])
  (show(WTm.eq .res (.lit (.bool true))).value [] { args:=args,res:=some (.bool true),after:=args }=some (.bool (true==true)) from w_eq_bool (w_res rfl) w_lit) rfl
theorem Yj{l:OpenLaw}{n:Nat}{q:Program}{loose:List Str}{XP:(Str->Option Value)->Heap->Prop}{YP:World->Heap->Prop}{d:DefRec}(hn:l.most=some n)(tY:d.params.defaults=[])(call:∀ (w:World) (df bC:Shared) (mg mb:Str->Option Value) (fa:Addr) (o:Obj) (pm cd doc:Value) (a:Addr) (vs:List Value) (ns:List Int),
   Ground q loose [] XP w df mg mb bC.heap->YP w bC.heap ->
   bC.heap.get? fa=some o->o.data=.func (docDef d.name d.params d.body d.scope pm cd doc)->bC.heap.CodeRec cd d.name->mg d.name=some (.ref fa) ->
   bC.heap.get? a=some { cls:=.type "list",data:=.seq vs.toArray }->IntsAre vs ns->ns.length<=n->bC.gens=#[] ->
   codeAny (model l.prog w) callerA (.call (.ref fa) ⟨[.ref a],[]⟩) (λr s'=>r=.ok (.ret (.bool true))/\OldK bC.heap s'.heap/\s'.os=bC.os/\AllBare s'.gens) bC) :
  WalkO q loose XP YP l.row.toRowW d [] (λf vs=>PySem.call f vs):=by
 intro w df bC mg mb G Y fa o pm cd doc dV kV ho hd lx hD hmg hg args vals as nK KA hrd yJ hlo;obtain rfl:dV=.none:=Dflts.none hD tY;obtain rfl:kV=.none:=Dflts.noKw hD;obtain⟨a,vs,ns,rfl,rfl,gx,hints,hlen⟩:=Xc hn nK yJ;refine enter_call (gD (call w df bC mg mb fa o pm cd doc a vs ns G Y ho (fd_plain hd) lx hmg gx hints hlen hg) λr s' hq=>?_);obtain⟨rfl,h2,h3,h4⟩:=hq;exact⟨.inl ⟨.bool true,.bool true,[],rfl,λ_=>rfl,.bool true,WY l _,λ_=>⟨List.Pairwise.nil,λ_ hm=>(nomatch hm)⟩⟩,h2,h3,h4⟩
end Jh
namespace L2
open PySem PySem.Spec PyProof.Rows
variable{w:World}{x qual:Str}{X:Cx}{A:Around}{s:Shared}{elt iter tg:Expr}{ifs:List Expr}{scope:Scope}{pos:Pos}{cl:List (Str×Addr)}{C:Addr}{N':List Str}{d6:List Nat}{fp:List Addr}{g:TG}{tc:TT}{te:TE}
theorem Gk:∀{vs:List Value} {ns:List Int},IntsAre vs ns->Vals (ns.map V.int) vs
 |_,_,.nil=>.nil
 |_,_,.cons n t h=>.cons ⟨t,rfl⟩ (Gk h)
def xq(H:Hp):Prop:=∀b,H b=none\/∃o xs,H b=some (.jt o (.lst xs))
theorem Qf{P:Program}{K:PySem.W.Frag}{mg mb:Str->Option Value}{CX:mL}{k:Nat}{fa a:Addr}{fd:FuncData}{sp:Sp}{bC:Shared}{vs:List Value}{ns:List Int}(KX:K.In bC.heap)(DL:bC.heap.Ns mainGlobals mg)(hb:bC.heap.Ns builtinsNs mb)(ze:∀x:Str,x≠"__name__"->mb x=bootBuiltins x)(yW:bC.heap.NoLimit)(hg:bC.gens=#[])(ha:bC.heap.get? a=some { cls:=.type "list",data:=.seq vs.toArray })(hi:IntsAre vs ns)(hl:ns.length<=sizeLine)(hr:q8 k callerA)(F:∀base:Heap,K.In base->base.Ns mainGlobals mg->gy P w K mg base CX k fa fd [x] sp)(ub:∀(s:Shared) (u:Value),BindsTo s fd ⟨[u],[]⟩ [(x,u)])(rq:∀H:Hp,xq H->ft K H a (ns.map V.int)->sp [.ref a] H (λv _=>v=.bl true) λ_ _ _=>False)(zm:∀H e s',CX [] H bC (λ_ _ _=>False) e s'->False) :
  codeAny (model P w) callerA (.call (.ref fa) ⟨[.ref a],[]⟩) (λr s'=>r=.ok (.ret (.bool true))/\OldK bC.heap s'.heap/\s'.os=bC.os/\AllBare s'.gens) bC:=by
 have rv:=Gk hi;have yz:=hi.length;have core:∀H:Hp,xq H->ft K H a (ns.map V.int)->fR P w H bC.heap->(∀b,H b≠none->b=a)->(H a≠none->K.lookup a=none) ->
   codeAny (model P w) callerA (.call (.ref fa) ⟨[.ref a],[]⟩) (λr s'=>r=.ok (.ret (.bool true))/\OldK bC.heap s'.heap/\s'.os=bC.os/\AllBare s'.gens) bC:=by
  intro H hO hS bw hA hK;have G9:∀{b:Addr} {o:Obj},bC.heap.get? b=some o->H b=none->(nZ bC.heap H).get? b=some o:=λe n=>PZ e n;have sX:∀{b:Addr} {o:Obj} {es:Array DictEntry} {ep:Nat},bC.heap.get? b=some o->o.data=.dict es ep->H b=none:=λ{b o es ep} e d=>by
   cases q:H b with
   |none=>rfl
   |some u =>
    have e':b=a:=hA b (by rw[q];simp);subst e';rw[ha] at e;cases e;have d':Data.seq vs.toArray _=Data.dict es ep:=d;cases d'
  have vX:∀{b:Addr} {m:Str->Option Value},bC.heap.Ns b m->(nZ bC.heap H).Ns b m:=λ{b m} ⟨o,es,ep,e,d,r⟩=>⟨o,es,ep,G9 e (sX e d),d,r⟩
  have Eb:K.In (nZ bC.heap H):=λb o e=>G9 (KX b o e) (by
   cases q:H b with
   |none=>rfl
   |some u =>
    have e':b=a:=hA b (by rw[q];simp);subst e';rw [hK (by rw [q];simp)] at e;cases e)
  have hM:Mod K mg (nZ bC.heap H):=⟨Eb,vX DL,⟨mb,vX hb,ze⟩,let ⟨mc,h1,h2⟩:=yW;⟨mc,vX h1,h2⟩⟩
  have e0:qu P w K mg (nZ bC.heap H) callerA [] bC H:=⟨rfl,hM,λb o e=>NP e,Nat.le_of_eq (a33 _ _),trivial,λb hb=>absurd (show b∈([]:List Addr) from hb) (by simp),bw,.of_eq hg⟩
  refine gD ((F _ Eb (vX DL)).run callerA [] bC H ⟨[.ref a],[]⟩ [.ref a] [.ref a] _ _ hr e0 (ub bC (.ref a)) (.cons rfl .nil) (rq H hO hS)) λr s' h=>?_;cases r with
  |error e=>exact(zm H e s' h).elim
  |ok fl =>
   cases fl with
   |next=>exact False.elim h
   |brk=>exact False.elim h
   |cont=>exact False.elim h
   |ret u =>
    obtain⟨v,H',os,bare,un,yR,r',q⟩:=h;have q':v=.bl true:=q;subst q';obtain rfl:u=Value.bool true:=r';refine⟨rfl,OldK.of_keep λb o e=>?_,os,bare⟩;cases q:H b with
    |none=>exact un.keep b o e q (by intro z;exact absurd (show b∈([]:List Addr) from z) (by simp)) (by simp)
    |some u =>
     rcases hO b with z|⟨ob,xs,z⟩
     ·rw[q] at z;cases z
     ·have z2:=un.hJ b ob _ z;obtain⟨e1,_⟩:=bw b _ z;obtain⟨e2,_⟩:=yR b _ z2;rw[e] at e1;cases e1;exact e2
 cases hk:K.lookup a with
 |some o =>
  have e:=KX a o hk;rw[ha] at e;cases e;refine core (λ_=>none) (λ_=>.inl rfl) (.inr ⟨_,vs.toArray,_,hk,rfl,rfl,rfl,by rw[aA,yz];exact hl,by simpa using rv⟩) (λb u z=>by have z':(none:Option HO)=some u:=z;cases z') (λb z=>absurd rfl z) λz=>absurd rfl z
 |none =>
  refine core (λb=>if b=a then some (.jt { cls:=.type "list",data:=.seq vs.toArray } (.lst (ns.map V.int))) else none) (λb=>?_) (.inl (.inr ⟨{ cls:=.type "list",data:=.seq vs.toArray },aG rfl⟩)) (λb u z=>?_) (λb z=>?_) λ_=>hk
  ·by_cases hb:b=a
   ·exact .inr ⟨_,_,aG hb⟩
   ·exact .inl (az hb)
  ·by_cases hb:b=a
   ·have z':=(aG hb).symm.trans z;cases z';subst hb;exact⟨ha,by rw[ao];exact hl,vs,_,rv,ha⟩
   ·have z':=(az hb).symm.trans z;cases z'
  ·by_cases hb:b=a
   ·exact hb
   ·exact absurd (az hb) z
theorem Pl{l:PySem.W.OpenLaw}{n k:Nat}{q:Program}{loose:List Str}{XP:(Str->Option Value)->Heap->Prop}{YP:World->Heap->Prop}{d:DefRec}{K:Params->PySem.W.Frag}{CX:World->mL}{sp:World->Sp}(hn:l.most=some n)(nL:n<=sizeLine)(tY:d.params.defaults=[])(hr:q8 k callerA)(hY:∀(w:World) (h:Heap),YP w h->(K w.params).In h)(F:∀ (w:World) (mg:Str->Option Value) (fa:Addr) (h:Heap),(K w.params).In h->h.Ns mainGlobals mg->mg d.name=some (.ref fa) ->
   ∃fd:FuncData,(∀(s:Shared) (u:Value),BindsTo s fd ⟨[u],[]⟩ [(x,u)]) /\
    ∀ base:Heap,(K w.params).In base->base.Ns mainGlobals mg->gy l.prog w (K w.params) mg base (CX w) k fa fd [x] (sp w))(rq:∀(w:World) (H:Hp) (a:Addr) (ns:List Int),ns.length<=n->xq H->ft (K w.params) H a (ns.map V.int)->sp w [.ref a] H (λv _=>v=.bl true) λ_ _ _=>False)(zm:∀(w:World) (H:Hp) (s:Shared) (e:Value) (s':Shared),CX w [] H s (λ_ _ _=>False) e s'->False) :
  PySem.W.WalkO q loose XP YP l.row.toRowW d [] (λf vs=>PySem.call f vs):=by
 refine Jh.Yj hn tY λw df bC mg mb fa o pm cd doc a vs ns G Y ho hd lx hmg gx hints hlen hg=>?_;have KX:=hY w _ Y;obtain⟨fd,hb,hF⟩:=F w mg fa _ KX G.T.g hmg;exact Qf KX G.T.g G.T.b G.T.builtins G.T.nolimit hg gx hints (aJ hlen nL) hr hF hb (λH hO hS=>rq w H a ns hlen hO hS) λH e s'=>zm w H bC e s'
def C0(s:Stmt):Arguments:=match s with
 |.FunctionDef _ a _ _ _ _ _ _ _ _=>a
 |_=>{ posonlyargs:=[],args:=[],vararg:=none,kwonlyargs:=[],kw_defaults:=[],kwarg:=none,defaults:=[] }
def o7(s:Stmt):List Stmt:=match s with
 |.FunctionDef _ _ b _ _ _ _ _ _ _=>b
 |_=>[]
def n8(s:Stmt):Scope:=match s with
 |.FunctionDef _ _ _ _ _ _ sc _ _ _=>sc
 |_=>{ kind:=.function,names:=[],isGenerator:=false,isCoroutine:=false }
structure pz(K:PySem.W.Frag)(x qual:Str)(st:Stmt)(f:Addr)(fd:FuncData):Prop where
 ex:∃(oc:Value) (od:Option Addr) (kV doc pm:Value) (an:Option Addr) (fG ct:Value) (lI:Array (Option Value)),
  fd=PySem.W.fnOf x qual (C0 st) (o7 st) (n8 st) .none kV doc pm an fG ct/\K.lookup f=some ⟨oc,od,.func fd,lI⟩/\PySem.W.codeIn K fG qual=true
 kp:PySem.W.keepIn K (.ref f)=true
section
variable{K:PySem.W.Frag}
theorem pz.binds{st:Stmt}{f:Addr}{fd:FuncData}{ps:List Str}(F:pz K x qual st f fd)(h:∀(kV doc pm:Value) (an:Option Addr) (fG ct:Value) (us:List Value),us.length=ps.length->bindArgs (PySem.W.fnOf x qual (C0 st) (o7 st) (n8 st) .none kV doc pm an fG ct) ⟨us,[]⟩=pure (ps.zip us)):Binds K fd ps []:=by
 obtain⟨oc,od,kV,doc,pm,an,fG,ct,lI,rfl,lk,lx⟩:=F.ex;exact .all (h kV doc pm an fG ct)
theorem IS{st:Stmt}{f:Addr}{oc:Value}{od an:Option Addr}{lI:Array (Option Value)}{kV doc pm fG ct:Value}(l:K.lookup f=some ⟨oc,od,.func (PySem.W.fnOf x qual (C0 st) (o7 st) (n8 st) .none kV doc pm an fG ct),lI⟩)(c:PySem.W.codeIn K fG qual=true)(k:PySem.W.keepIn K (.ref f)=true):pz K x qual st f (PySem.W.fnOf x qual (C0 st) (o7 st) (n8 st) .none kV doc pm an fG ct):=⟨⟨oc,od,kV,doc,pm,an,fG,ct,lI,rfl,l,c⟩,k⟩
end
theorem a49:m7 X (.builtin "len") (λxs H Q=>∃a kvs,xs=[V.ref a]/\H a=some (.dK kvs)/\Q (.int kvs.length) H):=by
 intro pins s Z H xs us Q I r h;obtain⟨a,kvs,rfl,ha,q⟩:=h;obtain⟨u,rfl,ru⟩:=vals1 r;cases ru;exact SH I (.inl ha) λt s' I'=>⟨.int kvs.length,H,I',⟨t,rfl⟩,q⟩
section
variable{prog:Program}{R:Result->Shared->Prop}
theorem YU{target:Expr}{it acc:Value}{env:Env}(I:Nat->Shared->Prop)(turn:∀ n s,I n s->wpAny (model prog w) A (pyNext it) (λr bC=>match r with
   |none=>R (.ok .next) bC
   | some v=>wpAny (model prog w) A (letOwnedTupleGo target it v) (λ_ bC=>wpAny (model prog w) A (assign target env v) (λ_ fb =>
     wpAny (model prog w) A (forIn ifs true λc r=>if r=true then do let ok <- isTrue c env (eval c env);pure (ForInStep.yield ok) else pure (ForInStep.yield r)) (λok dy =>
      if ok=true then wpAny (model prog w) A (eval elt env) (λx gI =>
       wpAny (model prog w) A (call (.builtin "list.append") [acc,x]) (λ_ jL=>∃ m,m < n/\I m jL) (λ_ _=>False) gI) (notedBy (model prog w) A env λe s'=>R (.error e) s') dy
      else ∃ m,m < n/\I m dy) (λ_ _=>False) fb) (λ_ _=>False) bC) (λ_ _=>False) bC) (λ_ _=>False) s)(n:Nat)(h:I n s) :
  codeAny (model prog w) A (.compLoop (.ListComp elt [⟨target,iter,ifs,0⟩] scope pos) 0 it acc env) R s:=by
 refine codeAny_loop rfl I (λn s hI=>?_) n h;show wpAny _ A ((compTurn (.ListComp elt [⟨target,iter,ifs,0⟩] scope pos) 0 it acc env).onRaise (λx=>do noteFrame x env;theTreesLotGoes x)) _ _ s;refine wpAny_noted ?_;rw[compTurn_list];refine aa (cT (aa (aV (turn n s hI) (λr bC cF=>?_) λ_ _ h'=>h'.elim)));cases r with
 |none=>exact ai cF
 |some v =>
  refine aa (aV cF (λ_ bC cF=>?_) λ_ _ h'=>h'.elim);refine aa (aV cF (λ_ fb gw=>aa (aV gw (λok dy jQ=>?_) λ_ _ h'=>h'.elim)) λ_ _ h'=>h'.elim);cases ok with
  |false=>exact wpAny_pure ⟨rfl,jQ⟩
  |true =>
   exact aa (aa (aV jQ (λx gI mn=>aa (aV mn (λ_ jL ml=>ai (ai ⟨rfl,ml⟩)) λ_ _ h'=>h'.elim)) λ_ _ h'=>h'))
end
def jD(X:Cx)(es:List Expr)(t:TT):Prop :=
 ∀(pins:List (Addr×Obj)) (s:Shared) (Z:St) (H:Hp) (Q:Bool->Hp->Prop),Inv X pins Z H s->t Z H Q ->
  wpAny (model X.prog X.w) X.A (forIn es true λc r=>if r=true then do let ok <- isTrue c X.env (eval c X.env);pure (ForInStep.yield ok) else pure (ForInStep.yield r)) (TP X pins Z Q) X.xe s
def Se:TT:=λ_ H Q=>Q true H
theorem Ot:jD X [] Se:=λpins s Z H Q I h=>ai ⟨H,I,h⟩
theorem HR{c:Expr}{t:TT}(h:PT X c t):jD X [c] t:=by
 intro pins s Z H Q I q;simp only[List.forIn_cons,List.forIn_nil,if_true];exact aa (aa (aV (h pins s Z H Q I q) (λb s' hb=>ai (ai hb)) λ_ _ x=>x))
def L8(scope:Scope)(cl:List (Str×Addr))(C:Addr):List (Str×Addr):=cellsFrom (C+1) scope.names []++cl
theorem F9:∀(names:List (Str×NameKind)) (n:Nat) (acc:List (Str×Addr)),cellsFrom n names acc=cellsFrom n names []++acc
 |[],_,_=>rfl
 |(y,k)::r,n,acc=>by
  unfold cellsFrom;split
  ·rw[F9 r (n+1) ((y,n)::acc),F9 r (n+1) [(y,n)],eZ]
   rfl
  ·exact F9 r n acc
theorem X4{x:Str}{c:Addr}:∀{names:List (Str×NameKind)} {n:Nat},(x,c)∈cellsFrom n names []->(x,NameKind.cell)∈names
 |[],_,h=>by simp[cellsFrom] at h
 |(y,k)::r,n,h=>by
  unfold cellsFrom at h;split at h
  ·rename_i hk;rw[F9] at h;rcases dF.mp h with z|z
   ·exact bQ _ (X4 z)
   ·cases dA.mp z;rw[show k=NameKind.cell from by simpa using hk];exact gf
  ·exact bQ _ (X4 h)
theorem K9{α:Type}{x:Str}:∀{a b:List (Str×α)},(a++b).lookup x=(a.lookup x).or (b.lookup x)
 |[],_=>rfl
 |(y,v)::r,b=>by
  rw[List.cons_append,cz,cz];cases x==y
  ·exact K9
  ·rfl
theorem FR(h:scope.names.lookup x=some .cell\/∃c,cl.lookup x=some c):∃c,(L8 scope cl C).lookup x=some c:=by
 unfold L8;rw[K9];cases e:(cellsFrom (C+1) scope.names []).lookup x with
 |some c=>exact⟨c,rfl⟩
 |none =>
  rcases h with h|h
  ·have q:=dz scope.names (C+1) [] (.inl h);rw[e] at q;cases q
  ·exact h
theorem P0{env:Env}:∀{names:List (Str×NameKind)} {x:Str},names.lookup x=some .cell ->
  (names.map λ(n,k)=>if(k==NameKind.free&&env.scope.kind==.function&&env.kindOf n==some .cell) then(n,NameKind.cell) else(n,k)).lookup x=some .cell
 |[],_,h=>by simp at h
 |(n,k)::r,x,h=>by
  have ih:=@P0 env r x;show List.lookup x ((if(k==NameKind.free&&env.scope.kind==.function&&env.kindOf n==some .cell)=true then(n,NameKind.cell) else(n,k))::_)=_;cases hx:x==n with
  |true =>
   simp only[List.lookup_cons,hx] at h;cases h;simp[List.lookup_cons,hx]
  |false =>
   simp only[List.lookup_cons,hx] at h;by_cases hc:(k==NameKind.free&&env.scope.kind==.function&&env.kindOf n==some .cell)=true
   ·rw[aG hc];simp only[List.lookup_cons,hx];exact ih h
   ·rw[az hc];simp only[List.lookup_cons,hx];exact ih h
theorem Q4{h:Heap}(ck:CellsOk h (C+1) (cellsFrom (C+1) scope.names [])){c:Addr}(e:(L8 scope cl C).lookup x=some c):C<c\/cl.lookup x=some c:=by
 unfold L8 at e;rw[K9] at e;cases e2:(cellsFrom (C+1) scope.names []).lookup x with
 |some c' =>
  rw[e2] at e;cases e;exact .inl (ck.empty x c (aK e2)).2
 |none =>
  rw[e2] at e;exact .inr e
theorem S6{M:Model}{E:Value->Shared->Prop}{globals:Addr}{outer:Env}{Q:Env->Shared->Prop}(hQ:∀ cF:Heap,cF.Ns s.heap.objs.size (λ_=>none)->(∀ b o,s.heap.get? b=some o->cF.get? b=some o)->CellsOk cF (s.heap.objs.size + 1) (cellsFrom (s.heap.objs.size + 1) scope.names []) ->
   Q (newEnv scope s.heap.objs.size globals (L8 scope cl s.heap.objs.size) qual none .none (some outer) builtinsNs) { s with heap:=cF }) :
  wpAny M A (newFunctionEnv scope globals cl [] qual none .none (some outer)) Q E s:=by
 simp only[newFunctionEnv,Option.isSome_some,if_true];refine aa (wpAny_alloc ?_);refine aa (wpAny_layCells _ (λname kind cells=>by cases KH:kind==NameKind.cell<;>simp[KH]) _ _ _ _ ?_);have ok:=cellsFrom_ok scope.names (s.heap.push { cls:=.type "dict",data:=.dict #[] }) (s.heap.objs.size+1) [] ⟨λ_ _ hm=>(nomatch hm),List.Pairwise.nil⟩ (by rw[dc];exact aj _);rw[dc] at ok;rw[show({ s with heap:=s.heap.push { cls:=.type "dict",data:=.dict #[] } }:Shared).heap.objs.size=s.heap.objs.size+1 from dc ..];rw[List.forIn_nil];refine aa (ai (ai ?_));rw[F9];exact hQ _ ((Heap.Ns.new s.heap (.type "dict")).keeps (pushCells_keeps _ _)) (λb o e=>pushCells_keeps _ _ b o (ah _ e)) ok
def b9(X:Cx)(pins:List (Addr×Obj))(scope:Scope)(N':List Str)(cl:List (Str×Addr))(C:Addr)(s:Shared)(H:Hp)(fp:List Addr):Cx where
 prog:=X.prog
 w:=X.w
 K:=X.K
 mg:=X.mg
 base:=X.base
 A:=X.A
 N:=N'
 df:=s
 iZ:=H
 env:=compEnvC scope (L8 scope cl C) C X.env
 outer:=X.stack
 stack:=X.stack
 ex:=fp
 calm:=true
 fn:=λx=>decide (scope.names.lookup x=some .cell)
 pn:=X.pn++pins
 xe:=λ_ _=>False
structure cI(X:Cx)(scope:Scope)(N':List Str)(d6:List Nat)(cl:List (Str×Addr)):Prop where
 kind:scope.kind=.function
 cells:∀y∈scope.names,y.2=.cell->scope.names.lookup y.1=some .cell
 names:∀y∈scope.names,y.2=.local->scope.names.lookup y.1=some .local
 nT:closureFor scope X.env=pure cl
 cin:∀x c,cl.lookup x=some c->X.env.cells.lookup x=some c
 uH:∀x,scope.names.lookup x=some .free->∃c,cl.lookup x=some c
 nd:N'.Nodup
 LY:∀(i j:Nat),d6[i]?=some j->∃x,N'[i]?=some x/\X.N[j]?=some x/\scope.names.lookup x=some .free/\(X.env.kindOf x=some .cell\/X.env.kindOf x=some .free)
 Ak:d6.length<=N'.length
theorem J1{env:Env}:∀{names:List (Str×NameKind)} {x:Str},names.lookup x=some .free ->
  (names.map λ(n,k)=>if(k==NameKind.free&&env.scope.kind==.function&&env.kindOf n==some .cell) then(n,NameKind.cell) else(n,k)).lookup x=some .cell \/
  (names.map λ(n,k)=>if(k==NameKind.free&&env.scope.kind==.function&&env.kindOf n==some .cell) then(n,NameKind.cell) else(n,k)).lookup x=some .free
 |[],_,h=>by simp at h
 |(n,k)::r,x,h=>by
  have ih:=@J1 env r x;show List.lookup x ((if(k==NameKind.free&&env.scope.kind==.function&&env.kindOf n==some .cell)=true then(n,NameKind.cell) else(n,k))::_)=_\/List.lookup x ((if(k==NameKind.free&&env.scope.kind==.function&&env.kindOf n==some .cell)=true then(n,NameKind.cell) else(n,k))::_)=_;cases hx:x==n with
  |true =>
   simp only[List.lookup_cons,hx] at h;cases h;by_cases hc:(NameKind.free==NameKind.free&&env.scope.kind==.function&&env.kindOf n==some .cell)=true
   ·rw[aG hc];simp[List.lookup_cons,hx]
   ·rw[az hc];simp[List.lookup_cons,hx]
  |false =>
   simp only[List.lookup_cons,hx] at h;by_cases hc:(k==NameKind.free&&env.scope.kind==.function&&env.kindOf n==some .cell)=true
   ·rw[aG hc];simp only[List.lookup_cons,hx];exact ih h
   ·rw[az hc];simp only[List.lookup_cons,hx];exact ih h
theorem P1{env:Env}:∀{names:List (Str×NameKind)} {x:Str},((names.map λ(n,k)=>if(k==NameKind.free&&env.scope.kind==.function&&env.kindOf n==some .cell) then(n,NameKind.cell) else(n,k)).lookup x=some .cell \/
  (names.map λ(n,k)=>if (k == NameKind.free && env.scope.kind == .function && env.kindOf n == some .cell) then (n,NameKind.cell) else (n,k)).lookup x=some .free)->names.lookup x=some .free \/ names.lookup x=some .cell
 |[],_,h=>by simp at h
 |(n,k)::r,x,h=>by
  have ih:=@P1 env r x;rw[bc] at h;cases hx:x==n with
  |true =>
   simp only[List.lookup_cons,hx];by_cases hc:(k==NameKind.free&&env.scope.kind==.function&&env.kindOf n==some .cell)=true
   ·left;simp only[Bool.and_eq_true,beq_iff_eq] at hc;rw[hc.1.1]
   ·simp only[if_neg hc,List.lookup_cons,hx] at h;rcases h with h|h
    ·exact .inr h
    ·exact .inl h
  |false =>
   simp only[List.lookup_cons,hx];by_cases hc:(k==NameKind.free&&env.scope.kind==.function&&env.kindOf n==some .cell)=true
   ·simp only[if_pos hc,List.lookup_cons,hx] at h;exact ih h
   ·simp only[if_neg hc,List.lookup_cons,hx] at h;exact ih h
def u5(Z:St)(d6:List Nat)(n:Nat):St:=d6.map (λj=>(Z[j]?).join)++List.replicate (n-d6.length) none
section
variable{pins:List (Addr×Obj)}{Z:St}{H:Hp}
theorem Inv.Bu{h1:Heap}{tk:Nat}(I:Inv X pins Z H s)(S:cI X scope N' d6 cl)(hc:X.calm=true)(hf:∀b∈fp,w5 X pins H b)(ho:∀b∈fp,∃o,s.heap.get? b=some o)(hC:s.heap.objs.size<=C)(hn:∃m,h1.Ns C m)(k:∀b o,s.heap.get? b=some o->h1.get? b=some o)(ck:CellsOk h1 (C+1) (cellsFrom (C+1) scope.names [])) :
  Inv (b9 X pins scope N' cl C s H fp) [] (u5 Z d6 N'.length) H { s with heap:=h1,toks:=tk }:=by
 obtain⟨m,hm⟩:=hn;have KG:(relabel scope X.env).kind=.function:=S.kind;have Dv:∀b o,s.heap.get? b=some o->b≠C:=λb o e z=>absurd (av e) (by rw[z];exact jG.mpr hC);have two:∀{x:Str} {c:Addr},(L8 scope cl C).lookup x=some c->(C<c/\h1.IsCell c none/\(x,c)∈cellsFrom (C+1) scope.names [])\/(cl.lookup x=some c/\(cellsFrom (C+1) scope.names []).lookup x=none):=λ{x c} h=>by
  unfold L8 at h;rw[K9] at h;cases e:(cellsFrom (C+1) scope.names []).lookup x with
  |some c' =>
   rw[e] at h;cases h;have hm:=aK e;exact .inl ⟨(ck.empty x c hm).2,(ck.empty x c hm).1,hm⟩
  |none =>
   rw[e] at h;exact .inr ⟨h,rfl⟩
 have sU:∀{x:Str} {c:Addr},cl.lookup x=some c->c<s.heap.objs.size:=λ{x c} h=>by
  obtain⟨v,o,e,_⟩:=I.cell x c (S.cin x c h);exact av e
 have frees:∀{x:Str},scope.names.lookup x=some .free->(L8 scope cl C).lookup x=cl.lookup x:=λ{x} h=>by
  unfold L8;rw[K9];cases e:(cellsFrom (C+1) scope.names []).lookup x with
  |some c' =>
   have:=S.cells _ (X4 (aK e)) rfl;rw[h] at this;cases this
  |none=>rfl
 refine⟨⟨I.mod,KG,I.ok.glob,I.ok.blt,hC,?_,?_,?_,λ_=>I.ok.hd hc,I.ok.frames,.inl rfl,?_,I.bs,?_,?_,?_,I.stack,I.xg⟩,rfl,I.bare,Un.kept k,⟨m,hm,?_⟩,?_,?_,?_,?_,I.bw.kept k,?_⟩
 ·intro x y c h1 h2;rcases two h1 with⟨l1,_,q1⟩|⟨q1,_⟩<;>rcases two h2 with⟨l2,_,q2⟩|⟨q2,_⟩
  ·exact PySem.name_of_addr ck.apart q1 q2
  ·exact absurd (cu l1 (ak (sU q2) hC)) (aX _)
  ·exact absurd (cu l2 (ak (sU q1) hC)) (aX _)
  ·exact I.ok.inj x y c (S.cin x c q1) (S.cin y c q2)
 ·intro x hx;rcases P1 (env:=X.env) (names:=scope.names) hx with z|z
  ·obtain⟨c,hc⟩:=S.uH x z;exact⟨c,(frees z).trans hc⟩
  ·have q:=dz scope.names (C+1) [] (.inl z);obtain⟨c,hc⟩:=eF.mp q;refine⟨c,?_⟩;show(L8 scope cl C).lookup x=some c;unfold L8;rw[K9,hc]
   rfl
 ·intro x c hf h;have z:scope.names.lookup x=some .cell:=aN hf;have q:=dz scope.names (C+1) [] (.inl z);rcases two h with⟨l,_⟩|⟨_,e⟩
  ·exact cX (jH hC l)
  ·rw[e] at q;cases q
 ·intro b hb;obtain⟨f0,f1,f2,f3,f4,f5⟩:=hf b hb;obtain⟨o,e⟩:=ho b hb;refine⟨Dv b o e,λx c h=>?_⟩;rcases two h with⟨l,_⟩|⟨q,_⟩
  ·intro z;subst z;exact absurd (cu l (ak (av e) hC)) (aX _)
  ·exact f4 x c (S.cin x c q)
 ·exact aJ I.ok.mJ I.sz
 ·intro b o e hb;obtain⟨f0,f1,f2,f3,f4,f5⟩:=hf b hb;rcases f3 with f3|f3
  ·exact I.ok.jN b o e f3
  ·exact absurd (av (I.ok.bs b o e).1) (jG.mpr f3)
 ·intro b hb z;obtain⟨f0,f1,f2,f3,f4,f5⟩:=hf b hb;rcases ay.mp (I.J9 b z) with z|z
  ·exact f1 z
  ·exact f2 z
 ·intro i x v zX h2 h3;have hi:i<d6.length:=by
   unfold u5 at h2;by_cases hi:i<d6.length
   ·exact hi
   ·rw[cP (by simpa using hi),dq] at h2;split at h2<;>cases h2
  obtain⟨j,hj⟩:∃j,d6[i]?=some j:=⟨_,aC hi⟩
  have hs:Z[j]?=some (some v):=by
   unfold u5 at h2;rw[aH (by simpa using hi),aB,hj] at h2;simp only[Option.map_some] at h2;cases e:Z[j]? with
   |none=>rw[e] at h2;cases h2
   |some a=>rw[e] at h2;exact dE some (aF h2)
  obtain⟨y,Km,yG,tD,DG⟩:=S.LY i j hj;have ey:y=x:=by
   have uq:N'[i]?=some x:=zX;rw[Km] at uq;exact aF uq
  subst ey;obtain⟨m0,hm0,hl⟩:=I.loc;obtain ⟨u,ru,hu⟩:=hl j y v yG hs (by
   rcases DG with z|z
   ·exact .inr (.inl z)
   ·exact .inr (.inr z))
  refine⟨u,ru,.inr ⟨J1 (env:=X.env) (names:=scope.names) tD,?_⟩⟩;rcases hu with⟨z,_⟩|⟨_,c,DX,mB⟩
  ·rcases DG with z'|z'<;>(rw[z'] at z;cases z)
  ·obtain⟨c',qa⟩:=S.uH y tD;have e:=S.cin y c' qa;rw[DX] at e;cases e;obtain⟨o,e1,e2⟩:=mB;exact⟨c,(frees tD).trans qa,o,k _ _ e1,e2⟩
 ·intro x c h;rcases two h with⟨_,q,_⟩|⟨q,_⟩
  ·exact⟨none,q⟩
  ·obtain⟨v,o,e1,e2⟩:=I.cell x c (S.cin x c q);exact⟨v,o,k _ _ e1,e2⟩
 ·exact I.bw.fresh hC
 ·intro x c h;rcases two h with⟨l,_⟩|⟨q,_⟩
  ·exact I.bw.fresh (cX (jH hC l))
  ·exact I.et x c (S.cin x c q)
 ·intro p hp;have fI:p∈X.pn++pins:=by simpa[b9] using hp
  obtain⟨p1,p2,p3,p4,p5⟩:=I.pin p fI;refine⟨k _ _ p1,p2,Dv _ _ p1,λz=>?_,p5⟩;rcases ay.mp (I.J9 _ z) with z|z
  ·exact p3 z
  ·exact p4 z
 ·unfold u5;show _=N'.length;rw[bz,ao,iH];have:=S.Ak;omega
theorem Inv.AV{iK:List (Addr×Obj)}{bI:St}{H':Hp}{s':Shared}(I:Inv X pins Z H s)(hf:∀b∈fp,w5 X pins H b)(J:Inv (b9 X pins scope N' cl C s H fp) iK bI H' s'):Inv X pins Z H' s' :=
 I.BK (ch:=fp) J.os J.base J.bw J.bare λb hb=>by
  obtain⟨f0,f1,f2,f3,f4,f5⟩:=hf b hb;exact⟨f3,f1,f4,f5⟩
theorem Inv.Uy{D:Addr}{ys:List V}{aO:List Value}{n:Nat}(I:Inv X pins Z H s)(f:w5 X pins H D)(hs:X.df.heap.objs.size<=D)(hv:Vals ys aO)(hz:ys.length<=sizeLine)(ho:s.heap.get? D=some { cls:=.type "list",data:=.seq aO.toArray n }):Inv X pins Z (upd H D (.lst ys)) s:=by
 obtain⟨f0,f1,f2,f3,f4,f5⟩:=f;have fk:∀b o,X.df.heap.get? b=some o->b≠D:=λb o e z=>absurd (av e) (by rw[z];exact jG.mpr hs);have tup:∀b u,H b=some u->upd H D (.lst ys) b=some u:=λb u e=>by rw[d0 (i0 e f0)];exact e
 refine⟨I.ok,I.os,I.bare,⟨?_,?_,?_,I.base.there,?_,?_,?_⟩,I.loc,I.cell,?_,?_,?_,?_,I.len⟩
 ·exact λb o e n1 n2 n3=>I.base.keep b o e n1 n2 n3
 ·exact λb o e n1 n2 n3=>I.base.slot b o e n1 n2 n3
 ·exact λb o e n1 n2=>by rw[d0 (fk b o e)];exact I.base.free b o e n1 n2
 ·exact λb xs e=>tup _ _ (I.base.ij b xs e)
 ·exact λb o u e=>tup _ _ (I.base.hJ b o u e)
 ·exact λb ps e=>by
   obtain⟨more,q⟩:=I.base.ik b ps e;exact⟨more,tup _ _ q⟩
 ·rw[d0 f1.symm];exact I.free
 ·exact λx c e=>by rw[d0 (f4 x c e)];exact I.et x c e
 ·intro p hp;obtain⟨p1,p2,p3⟩:=I.pin p hp;exact⟨p1,by rw[d0 (f5 p hp)];exact p2,p3⟩
 ·intro a o e;by_cases ha:a=D
  ·subst ha;rw[j6] at e;cases e;exact⟨hz,aO,n,hv,ho⟩
  ·rw[d0 ha] at e;have q:=I.bw a o e;refine q.U6 (λb u _ h=>h) (λb hb=>tup _ _ hb) (λb xs hb=>tup _ _ hb)
end
def BX(wi:TI)(d6:List Nat)(n:Nat)(g:TG)(tc:TT)(te:TE):TE:=λZ H Q=>wi Z H λJ H1=>∃W:Nat->Nat->List V->St->Hp->Prop,(∃m,W 0 m [] (u5 Z d6 n) H1)/\∀i m ys Z H,W i m ys Z H ->
 (J.stop i H/\∀p,H p=none->Q (.ref p) (upd H p (.lst ys))) \/
 (J.go i H/\ys.length < sizeLine/\∀ x H',J.nA i H x H'->g x Z H' λcq H2=>tc cq H2 λb H3 =>
  if b=true then te cq H3 λy H4=>∃ m',m' < m/\W (i + 1) m' (ys ++ [y]) cq H4 else ∃ m',m' < m/\W (i + 1) m' ys cq H3)
noncomputable abbrev P4(aO:List Value)(n:Nat):Obj:={ cls:=.type "list",data:=.seq aO.toArray n }
section
variable{pins:List (Addr×Obj)}{Z:St}{H:Hp}
theorem Gv{it:Addr}{tn:Nat->Heap->Prop}{J:It}{xx:Addr->Shared->Hp->Value->Shared->Prop}{RR:Value->Addr->Result->Shared->Prop}{E:Value->Shared->Prop}{W:Nat->Nat->List V->St->Hp->Prop}{m0:Nat}{Q:VK}(S:cI X scope N' d6 cl)(hc:X.calm=true)(hg:∀C s H,PG (b9 X pins scope N' cl C s H fp) tg g)(ht:∀C s H,jD (b9 X pins scope N' cl C s H fp) ifs tc)(he:∀C s H,PE ((b9 X pins scope N' cl C s H fp).oq (xx C s H)) elt te)(I:Inv X pins Z H s)(T:Turn X.prog X.w X.K tg J fp it tn)(st:tn 0 s.heap)(hf:∀b∈fp,w5 X pins H b)(w0:W 0 m0 [] (u5 Z d6 N'.length) H)(turn:∀ i m ys Z H,W i m ys Z H->(J.stop i H/\∀ p,H p=none->Q (.ref p) (upd H p (.lst ys))) \/
   (J.go i H/\ys.length < sizeLine/\∀ x H',J.nA i H x H'->g x Z H' λcq H2=>tc cq H2 λb H3 =>
    if b=true then te cq H3 λy H4=>∃ m',m' < m/\W (i + 1) m' (ys ++ [y]) cq H4 else ∃ m',m' < m/\W (i + 1) m' ys cq H3))(ue:∀D C s' H' m,Inv X pins Z H' s'->Q (.ref D) H'->s'.heap.Ns C m->H' C=none->s.heap.objs.size<=C->RR (.ref D) C (.ok .next) s')(Lh:∀D C e s',s.heap.objs.size<=C->xx C s H e s'->notedBy (model X.prog X.w) X.A (compEnvC scope (L8 scope cl C) C X.env) (λe s'=>RR (.ref D) C (.error e) s') e s') :
  wpAny (model X.prog X.w) X.A (newList []) (λacc dy=>wpAny (model X.prog X.w) X.A (newFunctionEnv scope X.env.globals cl [] X.env.qual none .none (some X.env)) (λjx gI =>
   jx.frame=X.env.frame/\codeAny (model X.prog X.w) X.A (.compStart (.ListComp elt [⟨tg,iter,ifs,0⟩] scope pos) 0 (.ref it) acc { jx with scope:=relabel scope X.env }) (RR acc jx.locals) gI) E dy) E s:=by
 refine bD (S6 λcF eV dG jR=>?_);dsimp only at eV dG jR ⊢;generalize kL:s.heap.push { cls:=.type "list",dict:=none,data:=.seq ([]:List Value).toArray }=H2 at eV dG jR ⊢;generalize eD:s.heap.objs.size=D at *;have hC:H2.objs.size=D+1:=by rw[<- kL,dc,eD]
 generalize eC:H2.objs.size=C at *;have oR:D≠C:=by omega
 have lt:∀b o,s.heap.get? b=some o->b<D:=λb o e=>by rw[<- eD];exact av e
 have lY:D<=C:=by omega
 have mP:∀b o,s.heap.get? b=some o->b≠C:=λb o e=>aI (ak (lt b o e) lY);have jP:∀b o,s.heap.get? b=some o->b≠D:=λb o e=>aI (lt b o e);have old:∀b o,s.heap.get? b=some o->cF.get? b=some o:=λb o e=>dG b o (kL▸ah _ e);have ir:cF.get? D=some (P4 [] 0):=dG _ _ (by rw[<- kL,<- eD];exact aw _ rfl);have gx:∀b∈fp,∃o,s.heap.get? b=some o:=λb hb=>by
  obtain⟨o,e,_⟩:=T.obj _ _ st b hb;exact⟨o,e⟩
 have oQ:D∉fp:=λhm=>by
  obtain⟨o,e⟩:=gx D hm;exact jP D o e rfl
 have X1:Inv (b9 X pins scope N' cl C s H fp) [] (u5 Z d6 N'.length) H { s with heap:=cF } :=
  I.Bu S hc hf gx (by rw[eD];omega) ⟨_,eV⟩ old jR
 have oE:tn 0 cF:=T.keep _ _ _ st λb _ o e=>old b o e;have uw:∀{H':Hp},(∀b∈fp,H' b=none)->∀b∈fp,w5 (b9 X pins scope N' cl C s H fp) [] H' b:=λhn b hb=>by
  obtain⟨f0,f1,f2,f3,f4,f5⟩:=hf b hb;obtain⟨o,e⟩:=gx b hb;refine⟨hn b hb,?_,?_,.inl hb,λx c q=>(Q4 jR q).elim (λl z=>absurd (cu (z▸l) (ak (lt b o e) lY)) (aX _)) λq=>f4 x c (S.cin x c q),λp hp=>?_⟩
  ·exact mP b o e
  ·exact λz=>by
    rcases ay.mp (I.J9 b z) with z|z
    ·exact f1 z
    ·exact f2 z
  ·have fI:p∈X.pn++pins:=by simpa[b9] using hp
   exact f5 p fI
 have fD:∀{H':Hp},H' D=none->w5 (b9 X pins scope N' cl C s H fp) [] H' D:=λhn=>by
  refine⟨hn,oR,λz=>?_,.inr (by show s.heap.objs.size<=D;omega),λx c q=>?_,λp hp=>?_⟩
  ·exact absurd (I.qD (a:=D) (by omega)) λko=>by
    rcases ay.mp (I.J9 D z) with z|z
    ·exact absurd I.lt (by rw[<- z,eD];exact aX _)
    ·exact ko z
  ·rcases Q4 jR q with l|q
   ·exact λz=>absurd (ak (z▸l) lY) (aX _)
   ·obtain⟨v,o,e,_⟩:=I.cell x c (S.cin x c q);exact jP c o e
  ·have fI:p∈X.pn++pins:=by simpa[b9] using hp
   exact jP _ _ (I.pin p fI).1
 have lT:∀{H':Hp} {s':Shared} {bI:St} {aO:List Value} {n:Nat},Inv (b9 X pins scope N' cl C s H fp) [] bI H' s'->H' D=none->s'.heap.get? D=some (P4 aO n) ->
   Inv (b9 X pins scope N' cl C s H fp) [(D,P4 aO n)] bI H' s':=λ{H' s' bI aO n} J0 hn e=>J0.E5 λp hp=>by
  have z:p=(D,P4 aO n):=by simpa using hp
  subst z;obtain⟨f0,f1,f2,_⟩:=fD hn;exact⟨e,f0,f1,f2,λv z=>nomatch z⟩
 have iX:∀{H':Hp} {aO:List Value} {n:Nat},(∀b∈fp,H' b=none)->∀b∈fp,w5 (b9 X pins scope N' cl C s H fp) [(D,P4 aO n)] H' b:=λ{H' aO n} hn b hb=>by
  obtain⟨f0,f1,f2,f3,f4,f5⟩:=uw hn b hb;refine⟨f0,f1,f2,f3,f4,λp hp=>?_⟩;have fI:p∈(b9 X pins scope N' cl C s H fp).pn\/p=(D,P4 aO n):=by simpa using hp
  rcases fI with z|z
  ·exact f5 p (cY _ z)
  ·subst z;exact λz=>oQ (by rw[show D=b from z];exact hb)
 have loop:∀dy:Shared,dy={ s with heap:=cF } ->
   codeAny (model X.prog X.w) X.A (.compLoop (.ListComp elt [⟨tg,iter,ifs,0⟩] scope pos) 0 (.ref it) (.ref D) (compEnvC scope (L8 scope cl C) C X.env)) (RR (.ref D) C) dy:=by
  rintro dy rfl;refine YU (λn s'=>∃ i ys bI H' aO nn,Inv (b9 X pins scope N' cl C s H fp) [] bI H' s'/\tn i s'.heap/\(∀ b ∈ fp,H' b=none)/\H' D=none/\Vals ys aO/\ys.length <= sizeLine /\
   s'.heap.get? D=some (P4 aO nn)/\W i n ys bI H') ?_ m0 ⟨0,[],_,H,[],0,X1,oE,λb hb=>(hf b hb).1,I.bw.fresh (by omega),.nil,bX _,ir,w0⟩
  rintro n s3 ⟨i,ys,gY,H3,aO,nn,I3,lR,mH,d3,v3,z3,o3,w3⟩;have pv:=lT I3 d3 o3;rcases turn i n ys gY H3 w3 with⟨stop,q⟩|⟨go,hz,step⟩
  ·refine bZ (T.done (b9 X pins scope N' cl C s H fp) rfl rfl rfl rfl i _ s3 _ H3 _ pv (iX mH) lR stop) λr s4 ⟨hr,I4⟩=>?_;subst hr;have o4:=(I4.pin (D,P4 aO nn) (by simp)).1;have J4:Inv X pins Z H3 s4:=I.AV hf I4;have ux:w5 X pins H3 D:=by
    refine⟨d3,bt (by rw[<- eD];exact I.lt),I.qD (by omega),.inr (by have:=I.sz;omega),λx c q=>?_,λp hp=>?_⟩
    ·obtain⟨v,o,e,_⟩:=I.cell x c q;exact jP c o e
    ·exact jP _ _ (I.pin p hp).1
   obtain⟨mC,tN,_⟩:=I4.loc;exact ue D C s4 (upd H3 D (.lst ys)) mC (J4.Uy ux (by have:=I.sz;omega) v3 z3 o4) (q D d3) tN (by rw[d0 oR.symm];exact I4.free) (by omega)
  ·refine bZ (T.item (b9 X pins scope N' cl C s H fp) rfl rfl rfl rfl i _ s3 _ H3 _ pv (iX mH) lR go) λr s4 ⟨u,hr,h4⟩=>?_;subst hr;refine bZ h4 λ_ s5 aT=>?_;obtain⟨x,H5,I5,r5,y5,kj,qi⟩:=aT;have o5:=I5.pin (D,P4 aO nn) (by simp);have qT:=I5.pinned (iX qi) (T.obj _ _ kj);refine bZ (hg C s H _ s5 _ H5 x u _ qT r5 (step x H5 y5)) λ_ s6 aT=>?_;obtain⟨ja,H6,I6,q6⟩:=aT;refine bZ (ht C s H _ s6 ja H6 _ I6 q6) λok s7 ⟨H7,I7,q7⟩=>?_;have back:∀{ow:St} {H8:Hp} {s8:Shared},Inv (b9 X pins scope N' cl C s H fp) ([(D,P4 aO nn)]++V1 fp s5.heap) ow H8 s8->(∀b∈fp,H8 b=none)/\tn (i+1) s8.heap/\H8 D=none/\s8.heap.get? D=some (P4 aO nn) :=
    λ{ow H8 s8} I8=>by
     have pf:∀b∈fp,∀o,s5.heap.get? b=some o->s8.heap.get? b=some o/\H8 b=none:=λb hb o e=>by
      have:=I8.pin (b,o) (aU _ (aU _ (N8 hb e)));exact⟨this.1,this.2.1⟩
     have pd:=I8.pin (D,P4 aO nn) (by simp);refine⟨λb hb=>?_,T.keep _ _ _ kj λb hb o e=>(pf b hb o e).1,pd.2.1,pd.1⟩;obtain⟨o,e,_⟩:=T.obj _ _ kj b hb;exact(pf b hb o e).2
   cases ok with
   |false =>
    obtain⟨m',hm,w7⟩:=q7;obtain⟨b1,b2,b3,b4⟩:=back I7;exact⟨m',hm,i+1,ys,ja,H7,aO,nn,I7.E5 λp hp=>absurd hp (by simp),b2,b1,b3,v3,z3,b4,w7⟩
   |true =>
    refine aV (he C s H _ s7 ja H7 _ (I7.oq _) q7) (λxv s8 aT=>?_) λe s' hx=>Lh D C e s' (by omega) hx;obtain⟨y,H8,I8,r8,m',hm,w8⟩:=aT;have I8:=I8.Cq;obtain⟨b1,b2,b3,b4⟩:=back I8;refine cW F.slot_list_append ⟨_,b4,rfl⟩ F.entry_list_append (F.args_list_append_2 _ _) (PySem.list_append D aO.toArray nn xv (by rw[aA];have:=v3.length;omega)) ⟨b4,?_⟩;have q:∃n',(s8.heap.update D (Obj.mapSeq (·.push xv))).get? D=some (P4 (aO++[xv]) n'):=by
     have q0:=PySem.IsL.update b4 (·.push xv);have e0:aO.toArray.push xv=(aO++[xv]).toArray:=by simp
     rw[e0] at q0;exact⟨_,q0⟩
    obtain⟨n',q⟩:=q;have vG:Inv (b9 X pins scope N' cl C s H fp) [] ja H8 s8:=I8.E5 λp hp=>absurd hp (by simp);obtain⟨f0,f1,f2,f3,f4,f5⟩:=fD (H':=H8) b3;have kp:∀b o,b≠D->s8.heap.get? b=some o->(s8.heap.update D (Obj.mapSeq (·.push xv))).get? b=some o:=λb' u hb hu=>(bY s8.heap (Obj.mapSeq (·.push xv)) (aZ hb)).trans hu;refine⟨m',hm,i+1,ys++[y],ja,H8,aO++[xv],n',vG.turned (it:=D) (t':=s8.toks) kp f0 f1 f3 f4 f5,T.keep _ _ _ b2 λb hb o e=>kp b o (λz=>oQ (by rw[<- z];exact hb)) e,b1,b3,v3.append (.cons r8 .nil),?_,q,w8⟩;rw[bz,iG];omega
 exact⟨rfl,codeAny_compStart_list (loop _ rfl) (T.self _ 0 _ _ _ oE (loop _ rfl))⟩
theorem Inv.BO{h':Heap}{s2:Shared}{H2:Hp}(I:Inv X pins Z H s)(hC:s2.heap.objs.size<=C)(I2:Inv X pins Z H2 s2)(hn:H C=none)(sb:Heap.SameBut C s.heap h'):Inv X pins Z H { s with heap:=h' }:=by
 have f:=I2.nY (b:=C) (H':=H) hC hn;obtain⟨f0,f1,f2,f3,f4,f5⟩:=f;exact I.turned (t':=s.toks) (λb o hb e=>sb.extBut b o hb e) f0 f1 f3 f4 f5
theorem Gx{M:Model}{E:Value->Shared->Prop}{a:Sem Value}{b:Sem Env}{P:Env->Prop}{Q:Value->Env->Shared->Prop}(h:wpAny M A a (λx s1=>wpAny M A b (λy s2=>P y/\Q x y s2) E s1) E s):wpAny M A a (λx s1=>wpAny M A b (λy s2=>Q x y s2) E s1) E s :=
 aV h (λ_ _ h=>aV h (λ_ _ h=>h.2) λ_ _ z=>z) λ_ _ z=>z
theorem HN{wi:TI}(S:cI X scope N' d6 cl)(hc:X.calm=true)(hi:PI X tg iter wi)(hg:∀pins C s H fp,PG (b9 X pins scope N' cl C s H fp) tg g)(ht:∀pins C s H fp,jD (b9 X pins scope N' cl C s H fp) ifs tc)(he:∀pins C s H fp,PE (b9 X pins scope N' cl C s H fp) elt te)(hs:∀x,foldedSetIterable iter X.env x=pure x):PE X (.ListComp elt [⟨tg,iter,ifs,0⟩] scope pos) (BX wi d6 N'.length g tc te):=by
 intro pins s Z H Q I h;rw[eval_ListComp];refine eX (use:=none) rfl hs S.nT S.kind S.names (bZ (hi pins s Z H _ I h) λxv bC cF=>bZ cF λrj fb gw=>?_);obtain⟨it,fp,tn,J,H2,e,I2,T,jk,f2,W,⟨m0,w0⟩,turn⟩:=gw;subst e;refine Gx (Gv (xx:=λ_ _ _ _ _=>False) (RR:=λacc C=>compPost (model X.prog X.w) X.A X.xe none (EP X pins Z Q) acc C) S hc (λC s H=>hg pins C s H fp) (λC s H=>ht pins C s H fp) (λC s H=>he pins C s H fp) I2 T jk f2 w0 turn ?_ λ_ _ _ _ _ z=>z.elim);intro D C s' H' m I' q hn hC hsz;exact⟨m,hn,λh' sb=>⟨.ref D,H',I'.BO hsz I2 hC sb,rfl,q⟩⟩
theorem YH{sP px:Pos}{wi:TI}{i:Nat}(S:cI X scope N' d6 cl)(hc:X.calm=true)(hi:PI X tg iter wi)(hg:∀pins C s H fp,PG (b9 X pins scope N' cl C s H fp) tg g)(ht:∀pins C s H fp,jD (b9 X pins scope N' cl C s H fp) ifs tc)(he:∀pins C s H fp,PE (b9 X pins scope N' cl C s H fp) elt te)(hs:∀x,foldedSetIterable iter X.env x=pure x)(hN:X.N.Nodup)(tT:X.N[i]?=some x)(hx:Loc X.env.scope x)(hf:X.fn x=true\/X.env.scope.names.lookup x=some .local) :
  PS X (.Assign [.Name x px] (.ListComp elt [⟨tg,iter,ifs,0⟩] scope pos) sP) (vt (BX wi d6 N'.length g tc te) (sd i)):=by
 intro pins s Z H D I h;have wa:∃b,swapsWith (.ListComp elt [⟨tg,iter,ifs,0⟩] scope pos) (some (.Name x px)) sP.line X.env=pure b:=⟨_,rfl⟩
 obtain⟨b,wa⟩:=wa;cases b with
 |false=>exact He hN tT hx (HN S hc hi hg ht he hs) wa hf pins s Z H D I h
 |true =>
  rw[exec_Assign_Name_used _ _ _ _ wa];refine aa (cT (aa ?_));show wpAny _ X.A (do let _ <- comprehension (.ListComp elt [⟨tg,iter,ifs,0⟩] scope pos) scope X.env _ (newList []) false (eval iter X.env) (some (assign (.Name x px) X.env))) _ _ s;refine aa (aV (eX (use:=some (assign (.Name x px) X.env)) (Q:=λ_ s'=>SP X pins D .next s') rfl hs S.nT S.kind S.names
   (bZ (hi pins s Z H _ I h) λxv bC cF=>bZ cF λrj fb gw=>?_)) (λ_ s' hq=>ai (ai hq)) λ_ _ e=>e)
  obtain⟨it,fp,tn,J,H2,e,I2,T,jk,f2,W,⟨m0,w0⟩,turn⟩:=gw;subst e;refine Gx (Gv (xx:=λ_ _ _ _ _=>False) (Q:=λv H1=>sd i v Z H1 D.nx) (RR:=λacc C=>compPost (model X.prog X.w) X.A X.xe (some (assign (.Name x px) X.env)) (λ_ s'=>SP X pins D .next s') acc C) S hc (λC s H=>hg pins C s H fp) (λC s H=>ht pins C s H fp) (λC s H=>he pins C s H fp) I2 T jk f2 w0 turn ?_ λ_ _ _ _ _ z=>z.elim);intro Dl C s' H' m I' q hn hC hsz;show wpAny _ X.A (assign (.Name x px) X.env (.ref Dl)) _ _ _;refine wpAny_assign_Name (Gj I' hN tT hx (v:=.ref Dl) rfl (λs3 I3 ⟨a,sb,ha⟩=>?_) hf);have Ll:C≠a:=by
   obtain⟨f0,f1,f2,f3,f4,f5⟩:=I2.nY (b:=C) (H':=H') hsz hC;rcases ha with z|z
   ·rw[z];exact f1
   ·exact λz'=>f4 _ _ z z'.symm
  obtain⟨f0,f1,f2,f3,f4,f5⟩:=I2.nY (b:=C) (H':=H') hsz hC;refine⟨m,hn.sameBut sb Ll,λh3 JB=>⟨_,H',I3.turned (t':=s3.toks) (λb o hb e=>JB.extBut b o hb e) f0 f1 f3 f4 f5,q⟩⟩
end
end L2
namespace HT
open PySem PyProof.Rows
section
variable{prog:Program}{w:World}{A:Around}{E:Value->Shared->Prop}{s:Shared}
theorem Pt{t b:Addr}{ws:List Value}{Q:Value->Shared->Prop}(ht:IsTup s.heap t #[])(hb:IsTup s.heap b ws.toArray)(h1:Q (.ref b) s):wpAny (model prog w) A (binaryOp .Add (.ref t) (.ref b)) Q E s:=by
 obtain⟨⟨cls,dd,data,sl⟩,ho,hc,n,hd⟩:=id ht;obtain⟨⟨uG,oY,data2,kF⟩,kn,mB,n2,hd2⟩:=id hb;simp only at hc hd mB hd2;subst hc hd mB hd2;exact concat_meets ⟨_,ho,rfl⟩ ⟨_,kn,rfl⟩ iR lD ic gU (gE _ _)
   (tuple_addW0 t b #[] ws.toArray n n2 dd oY sl kF rfl) ⟨ho,kn,h1⟩
theorem WT{t sl:Addr}{items:Array Value}{vl vu:Value}{lo hi:Option Int}{Q:Value->Shared->Prop}(ht:IsTup s.heap t items)(hs:s.heap.IsSliceOf sl vl vu .none)(pl:IsPart vl lo)(pu:IsPart vu hi)(hw:dB items.size 0 lo=0/\dB items.size items.size hi=items.size)(h:Q (.ref t) s):wpAny (model prog w) A (getItem (.ref t) (.ref sl)) Q E s:=by
 obtain⟨os,pW,mT,tX⟩:=id hs;have zf:s.TypeIs (.ref sl) "slice":=⟨os,pW,mT⟩
 unfold getItem
 try with_reducible refine bq ?_
 first|refine aa (ai ?_)|skip
 refine aa (wpAny_sequenceKey ht.typeIs (by decide) ?_);refine aa (fg (name:=Str.ofString "__getitem__") ht.typeIs bP
  (bL bP ht.typeIs entry_tuple_getitem ?_ (args_tuple_getitem _ _)))
 show wpAny _ _ (Builtin.Tuple.tupleItemsOf (.ref t) >>= _) _ _ s;refine aa (tupleItemsOf_ ht ?_);refine aa (dn zf ?_);rw[aG (by decide)];refine aa (U7 hs pl pu ?_);have yF:((((dB items.size 0 lo:Nat):Int)==0&&(1:Int)==1&&(dB items.size items.size hi-dB items.size 0 lo)==items.size)=true):=by
  rw[hw.1,hw.2];simp
 show wpAny _ _ (if(((dB items.size 0 lo:Nat):Int)==0&&(1:Int)==1&&(dB items.size items.size hi-dB items.size 0 lo)==items.size)=true then _ else _) _ _ s;rw[aG yF];obtain⟨o,ho,hc,_⟩:=id ht;unfold Builtin.Tuple.tupleIsExact;refine aa (aa (dn ht.typeIs (ai ?_)));rw[aG (by decide)]
 first
  |exact wpAny_bind (wpAny_rule (wpAny_bind (wpAny_pure ⟨_,rfl,wpAny_pure h⟩)))
  |exact wpAny_bind (wpAny_rule (wpAny_pure ⟨_,rfl,wpAny_pure h⟩))
  |exact wpAny_bind (wpAny_rule (wpAny_bind (wpAny_pure (wpAny_pure ⟨_,rfl,wpAny_pure h⟩))))
end
end HT
namespace L2
open PySem PySem.Spec PyProof.Rows
section
variable{X:Cx}
def Wa(K:PySem.W.Frag):R2:=λx y H Q=>∃a b xs ys,x=.ref a/\y=.ref b/\gS K H a xs/\gS K H b ys/\xs.length+ys.length<=sizeLine /\
 (xs=[]->Q (.ref b) H)/\(ys=[]->Q (.ref a) H)/\(∀p,H p=none->Q (.ref p) (upd H p (.tup (xs++ys))))
theorem Qq:fu X (binaryOp .Add) (Wa X.K):=by
 intro pins s Z H x y v u Q I rx ry h;obtain⟨a,b,xs,ys,rfl,rfl,ha,hb,hz,q0,q1,q2⟩:=h;by_cases hx:xs=[]
 ·subst hx;cases rx;cases ry;obtain⟨aO,r1,p1,_⟩:=I.tuple ha;obtain⟨mj,r2,p2,_⟩:=I.tuple hb;cases r1;exact HT.Pt p1 p2 ⟨.ref b,H,I,rfl,q0 rfl⟩
 ·exact NS pins s Z H _ _ v u Q I rx ry ⟨a,b,xs,ys,rfl,rfl,ha,hb,hx,hz,q1,λ_=>q2⟩
def Uc(K:PySem.W.Frag):V->Option Int->Option Int->Hp->VK->Prop:=λx lo hi H Q=>∃a xs,x=.ref a/\gS K H a xs /\
 (X3 xs lo hi=xs->Q (.ref a) H)/\∀p,H p=none->Q (.ref p) (upd H p (.tup (X3 xs lo hi)))
theorem OT:vA X (Uc X.K):=by
 intro pins s Z H x v vl vu lo hi sl Q I rx hs pl pu h;obtain⟨a,xs,rfl,hx,q0,q⟩:=h;by_cases hw:HT.dB xs.length 0 lo=0/\HT.dB xs.length xs.length hi=xs.length
 ·cases rx;obtain⟨aO,r,ht,hz⟩:=I.tuple hx;have hlen:aO.toArray.size=xs.length:=by rw[aA];exact r.length.symm
  refine⟨"tuple",_,bP.lookup,ht.typeIs,?_⟩;exact HT.WT ht hs pl pu (by rw[hlen];exact hw) ⟨.ref a,H,I,rfl,q0 (by unfold X3;rw[hw.1,hw.2];simp)⟩
 ·exact Mr pins s Z H _ v vl vu lo hi sl Q I rx hs pl pu ⟨a,xs,rfl,hx,hw,q⟩
theorem Yk:m7 X (.builtin "isinstance") (λxs H Q=>∃x t c b,xs=[x,.ty c]/\gM X.K H x t/\PySem.W.kitOne X.K t (.type c)=some b/\Q (.bl b) H):=by
 intro pins s Z H xs us Q I r h;obtain⟨x,t,c,b,rfl,hT,hk,q⟩:=h;obtain⟨u,w',rfl,ru,eW⟩:=vals2 r;cases (show w'=Value.type c from eW);exact a30 I ru hT hk λtk=>⟨.bl b,H,I.tok tk,rfl,q⟩
theorem a51(hc:X.calm=true):m7 X (.builtin "all") (λxs H Q=>∃(a:Addr) (bs:List Bool),xs=[.ref a]/\ft X.K H a (bs.map V.bl)/\Q (.bl (bs.all id)) H):=by
 intro pins s Z H xs us Q I r h;obtain⟨a,bs,rfl,ha,q⟩:=h;obtain⟨u,rfl,ru⟩:=vals1 r;cases ru;obtain⟨aO,rv,p,hz⟩:=I.list ha;refine call_all_walk ?_;refine iu p.isList ?_;have fk:a≠s.heap.objs.size:=by
  obtain⟨o,e,_⟩:=id p.isList;exact aI (av e)
 have hl:=rv.length;rw[ao] at hl;refine⟨s.heap.objs.size,_,_,_,_,_,λi=>bs.getD i true,rfl,Walks.list (A:=X.A.in1) (I.ok.hd hc) _ a fk aO.toArray,⟨⟨_,aw _ rfl,rfl,rfl⟩,?_⟩,?_,λh' tk k=>?_⟩
 ·obtain⟨o,e,q1⟩:=id p.isList;exact⟨o,ah _ e,q1⟩
 ·intro i v s' Q' E' hP hQ;have hv:aO[i]?=some v:=by simpa using hP
  have hi:i<bs.length:=by rw[hl];exact(aD.mp hv).1
  obtain⟨u',tF,yk⟩:=rv.get (i:=i) (x:=V.bl bs[i]) (by rw[aB,aC hi];rfl);rw[hv] at tF;cases tF;cases (show v=Value.bool bs[i] from yk);refine cx ?_;have:bs.getD i true=bs[i]:=by simp[List.getD,hi]
  dsimp only at hQ;rw[this] at hQ;exact hQ
 ·have e1:(List.range aO.toArray.size).all (λi=>bs.getD i true)=bs.all id:=by
   rw[aA,<- hl];rw[bG];simp only[List.all_eq_true,List.mem_range,id];constructor
   ·intro hh x hx;obtain⟨i,hi,rfl⟩:=dQ.mp hx;have:=hh i hi;simpa[List.getD,hi] using this
   ·intro hh i hi;have:=hh bs[i] (dY hi);simpa[List.getD,hi] using this
  rw[e1];exact ⟨.bl (bs.all id),H,I.kept (t':=tk) λb o e=>k b o (by
   intro hb;have:b=s.heap.objs.size:=by simpa using hb
   exact absurd (av e) (by rw [this];exact aX _)) (ah _ e),rfl,q⟩
end
end L2
namespace HT
open PySem PyProof.Rows
end HT
namespace L2
open PySem PySem.Spec PyProof.Rows
variable{X:Cx}{pos p:Pos}{w:World}{H H':Hp}{Z:St}{s s':Shared}{B:Heap}{ea C:Addr}{a0:Value}{ta:TA}
theorem m4.get{P:Program}{h:Heap}{a:Addr}:∀{o:HO},m4 P w H h a o->∃ob,h.get? a=some ob
 |.lst _,x=>by obtain⟨_,_,_,_,e⟩:=x;exact⟨_,e⟩
 |.tup _,x=>by obtain⟨_,_,_,o,e,_⟩:=x;exact⟨o,e⟩
 |.dK _,x=>by obtain⟨_,_,_,_,o,es,ep,e,_⟩:=x;exact⟨o,e⟩
 |.dT _,x=>by obtain⟨_,_,_,_,o,es,ep,e,_⟩:=x;exact⟨o,e⟩
 |.set _ _,x=>by obtain⟨o,es,ep,t,e,_⟩:=x;exact⟨o,e⟩
 |.ins _ _ _,x=>by obtain⟨_,_,_,e,_⟩:=x;exact⟨_,e⟩
 |.own _,x=>x
 |.xd _,x=>by obtain⟨mA,n,_⟩:=x;obtain⟨od,e,_⟩:=Ge n;exact⟨od,e⟩
 |.lG _ _,x=>by obtain⟨_,_,_,e⟩:=x;exact⟨_,e⟩
 |.jt _ _,x=>⟨_,x.1⟩
 |.oA _,x=>⟨_,x⟩
 |.met _ _,x=>⟨_,x⟩
 |.ext _,x=>x.2.1
def BI(H':Hp)(h0:Heap)(l:List Env)(e:Value)(C:Addr)(h:Heap):Prop :=
 ∃(ea:Addr) (a0:Value) (B:Heap),e=.ref ea/\Heap.FlyingW B l ea (.ref C) a0 h/\∀b o,h.get? b=some o->b∉fL l->(H' b≠none\/∃o0,h0.get? b=some o0)->B.get? b=some o
def gN(P:Program)(w:World):mL:=λouter H s E e s'=>∃(C:Addr) (H':Hp),s'.os=s.os/\AllBare s'.gens/\Un (fL outer) [] H H' s.heap s'.heap/\fR P w H' s'.heap/\BI H' s.heap outer e C s'.heap/\E (.ref C) none H'
section
variable{pins:List (Addr×Obj)}{E:XK}{e:Value}
theorem Inv.flew(I:Inv X pins Z H s)(h:gN X.prog X.w X.stack H s E e s'):∃C H',Inv X pins Z H' s'/\BI H' s.heap X.stack e C s'.heap/\E (.ref C) none H':=by
 obtain⟨C,H',ho,hb,hu,bw,fl,hE⟩:=h;exact⟨C,H',I.BK (ch:=[]) ho hu bw hb (by simp),fl,hE⟩
theorem xh(I:Inv X pins Z H s){b:Addr}(hb:b∈fL X.stack):∃o,s.heap.get? b=some o/\∀vs,o.data≠.fields vs:=(I.stack.mem hb).2
theorem BL{mW:Heap}(I:Inv X pins Z H s)(eU:X.stack=X.env::X.outer)(hex:X.ex=[])(hf:X.env.frame=some X.env.locals)(rm:∀b o,s.heap.get? b=some o->b∉fL X.stack->(H b≠none\/∃o0,X.df.heap.get? b=some o0)->B.get? b=some o)(sl:∀b∈fL X.stack,∀o,s.heap.get? b=some o->∃sl,mW.get? b=some { o with slots:=sl })(fw:Heap.FlyingW B X.outer ea (.ref C) a0 mW)(hE:E (.ref C) none H):gN X.prog X.w X.outer X.iZ X.df E (.ref ea) { s with heap:=mW }:=by
 have yN:∀b,b∈fL X.outer->b∈fL X.stack:=λb hb=>by rw[eU];unfold fL at hb ⊢;rw[ei,hf];exact bQ _ hb
 have sW:∀b o,X.df.heap.get? b=some o->b∉fL X.outer->b∉fL X.stack:=λb o e hb z=>by
  rcases ay.mp (I.J9 b z) with z|z
  ·exact absurd (av e) (by rw[z];exact jG.mpr I.ok.above)
  ·exact hb z
 have nB:∀b u,H b=some u->b∉fL X.stack:=λb u e z=>by rw[I.xg b z] at e;cases e
 have kept:∀b o,s.heap.get? b=some o->b∉fL X.stack->(H b≠none\/∃o0,X.df.heap.get? b=some o0)->mW.get? b=some o:=λb o e n q=>fw.1 b o (rm b o e n q);have sY:∀b,b∉X.ex:=λb=>by rw[hex];simp
 refine⟨C,H,I.os,I.bare,⟨?_,?_,?_,?_,I.base.ij,I.base.hJ,I.base.ik⟩,?_,⟨ea,a0,B,rfl,fw,?_⟩,hE⟩
 ·exact λb o e n1 n2 _=>kept b o (I.base.keep b o e n1 n2 (sY b)) (sW b o e n2) (.inr ⟨o,e⟩)
 ·intro b o e n1 n2 _;obtain⟨Jz,e1⟩:=I.base.slot b o e n1 n2 (sY b);obtain⟨kF,e2⟩:=sl b (yN b n2) _ e1;exact⟨kF,e2⟩
 ·exact λb o e n1 _=>I.base.free b o e n1 (sY b)
 ·intro b o e _;obtain⟨o1,e1⟩:=I.base.there b o e (sY b);by_cases hb:b∈fL X.stack
  ·obtain⟨kF,e2⟩:=sl b hb _ e1;exact⟨_,e2⟩
  ·exact⟨o1,kept b o1 e1 hb (.inr ⟨o,e⟩)⟩
 ·intro a o e;exact (I.bw a o e).U6 (λb u hb q=>by
   have jd:∃v,H b=some v:=by
    rcases hb with rfl|hb
    ·exact⟨o,e⟩
    ·exact⟨_,hb⟩
   obtain⟨v,hv⟩:=jd;exact kept b u q (nB b v hv) (.inl (by rw [hv];simp))) (λb hb=>hb) (λb xs hb=>hb)
 ·intro b o e n q;rcases q with q|⟨o0,q⟩
  ·obtain⟨v,hv⟩:=nr.mp q;obtain⟨o1,e1⟩:=(I.bw b v hv).get;have z:=rm b o1 e1 (nB b v hv) (.inl (by rw[hv];simp));have z':=fw.1 b o1 z;have:o=o1:=by
    have e':mW.get? b=some o:=e;rw[z'] at e';exact(aF e').symm
   subst this;exact z
  ·obtain⟨o1,e1⟩:=I.base.there b o0 q (sY b);have z:=rm b o1 e1 (sW b o0 q n) (.inr ⟨o0,q⟩);have z':=fw.1 b o1 z;have:o=o1:=by
    have e':mW.get? b=some o:=e;rw[z'] at e';exact(aF e').symm
   subst this;exact z
theorem YX{h0:Heap}{Ex:Value->Shared->Prop}(I:Inv X pins Z H s)(fl:BI H h0 X.stack e C s.heap)(Lu:∀b o,X.df.heap.get? b=some o->∃o',h0.get? b=some o')(eU:X.stack=X.env::X.outer)(hex:X.ex=[])(hf:X.env.frame=some X.env.locals)(hE:E (.ref C) none H):wpAny (model X.prog X.w) X.A (leaving X.env e) (λ_ nC=>gN X.prog X.w X.outer X.iZ X.df E e nC) Ex s:=by
 obtain⟨ea,a0,B,rfl,fw,hB⟩:=fl;have fw0:=fw;rw[eU] at fw;refine wpAny_leaves_onW (by rw[I.ok.frames,eU]) hf fw λmW wt us=>?_;refine BL I eU hex hf (λb o e n q=>hB b o e n (q.imp id λ⟨o0,q⟩=>Lu b o0 q)) (λb hb o e=>?_) wt hE;obtain⟨o1,e1,nf⟩:=xh I hb;rw[e] at e1;cases e1;exact us b o e nf
theorem Xz{h':Heap}{vs:List Value}{Ex:Value->Shared->Prop}(I:Inv X pins Z H s)(hx:Heap.MadeExcOf s.heap h' ea (.ref C) vs)(eU:X.stack=X.env::X.outer)(hex:X.ex=[])(hf:X.env.frame=some X.env.locals)(hE:E (.ref C) none H):wpAny (model X.prog X.w) X.A (leaving X.env (.ref ea)) (λ_ nC=>gN X.prog X.w X.outer X.iZ X.df E (.ref ea) nC) Ex { s with heap:=h' }:=by
 have rD:=I.stack;rw[eU] at rD;have KI:∀env∈(X.env::X.outer),∀b,env.frame=some b->b∈fL X.stack:=λenv he b hb=>by rw[eU];exact jI.mpr ⟨env,he,hb⟩
 refine wpAny_leaves_madeW (s:={ s with heap:=h' }) (base:=PySem.W.hideAll s.heap (fL X.stack)) (h:=s.heap) (by rw[I.ok.frames,eU]) hf (λb o q=>Jj _ q) (PySem.W.funFrames_hide rD KI) hx λmW t fw _ _ us=>?_;refine(show gN X.prog X.w X.outer X.iZ X.df E (.ref ea) { s with heap:=mW } from BL I eU hex hf (λb o e n _=>CS _ e n) (λb hb o e=>?_) fw hE);obtain⟨o1,e1,nf⟩:=xh I hb;rw[e] at e1;cases e1;exact us b o (hx.keeps b o e) nf
theorem ZY{l:List Env}{h0 h h1:Heap}{Pg:Program}(u:Un (fL l) [] H H' h0 h)(ok:fR Pg w H' h)(hB:∀b o,h.get? b=some o->b∉fL l->(H' b≠none\/∃o0,h0.get? b=some o0)->B.get? b=some o)(st:B.StaysIn h1)(us:h.UpToSlots h1)(DT:∀b∈fL l,H' b=none/\∃o,h.get? b=some o/\∀vs,o.data≠.fields vs):Un (fL l) [] H H' h0 h1/\fR Pg w H' h1/\∀b o,h1.get? b=some o->b∉fL l->(H' b≠none\/∃o0,h0.get? b=some o0)->B.get? b=some o:=by
 have nB:∀b u,H' b=some u->b∉fL l:=λb u e z=>by rw[(DT b z).1] at e;cases e
 have kept:∀b o,h.get? b=some o->b∉fL l->(H' b≠none\/∃o0,h0.get? b=some o0)->h1.get? b=some o:=λb o e n q=>st b o (hB b o e n q);have Eh:∀b∈fL l,∀o,h.get? b=some o->∃sl,h1.get? b=some { o with slots:=sl }:=λb hb o e=>by
  obtain⟨_,o1,e1,nf⟩:=DT b hb;rw[e] at e1;cases e1;exact us b o e nf
 refine⟨⟨?_,?_,u.free,?_,u.ij,u.hJ,u.ik⟩,?_,?_⟩
 ·exact λb o e n1 n2 n3=>kept b o (u.keep b o e n1 n2 n3) n2 (.inr ⟨o,e⟩)
 ·intro b o e n1 n2 n3;obtain⟨Jz,e1⟩:=u.slot b o e n1 n2 n3;obtain⟨kF,e2⟩:=Eh b n2 _ e1;exact⟨kF,e2⟩
 ·intro b o e n;obtain⟨o1,e1⟩:=u.there b o e n;by_cases hb:b∈fL l
  ·obtain⟨kF,e2⟩:=Eh b hb _ e1;exact⟨_,e2⟩
  ·exact⟨o1,kept b o1 e1 hb (.inr ⟨o,e⟩)⟩
 ·intro a o e;exact (ok a o e).U6 (λb u hb q=>by
   have jd:∃v,H' b=some v:=by
    rcases hb with rfl|hb
    ·exact⟨o,e⟩
    ·exact⟨_,hb⟩
   obtain⟨v,hv⟩:=jd;exact kept b u q (nB b v hv) (.inl (by rw [hv];simp))) (λb hb=>hb) (λb xs hb=>hb)
 ·intro b o e n q;have:∃o1,h.get? b=some o1:=by
   rcases q with q|⟨o0,q⟩
   ·obtain⟨v,hv⟩:=nr.mp q;exact(ok b v hv).get
   ·exact u.there b o0 q (by simp)
  obtain⟨o1,e1⟩:=this;have z:=hB b o1 e1 n q;rw[st b o1 z] at e;cases e;exact z
structure Lies(X:Cx)(H H':Hp)(s:Shared)(B:Heap)(ea C:Addr)(a0:Value)(s':Shared):Prop where
 os:s'.os=s.os
 bare:AllBare s'.gens
 un:Un (fL X.stack) [] H H' s.heap s'.heap
 bw:fR X.prog X.w H' s'.heap
 rm:∀b o,s'.heap.get? b=some o->b∉fL X.stack->(H' b≠none\/∃o0,s.heap.get? b=some o0)->B.get? b=some o
theorem Lies.inv(I:Inv X pins Z H s)(l:Lies X H H' s B ea C a0 s'):Inv X pins Z H' s':=I.BK (ch:=[]) l.os l.un l.bw l.bare (by simp)
theorem leave_held{Ex:Value->Shared->Prop}(I:Inv X pins Z H s)(l:Lies X H H' s B ea C a0 s')(hh:Heap.HeldW B X.stack ea (.ref C) a0 X.env.locals s'.heap)(eU:X.stack=X.env::X.outer)(hex:X.ex=[])(hf:X.env.frame=some X.env.locals)(hE:E (.ref C) none H'):wpAny (model X.prog X.w) X.A (leaving X.env (.ref ea)) (λ_ nC=>gN X.prog X.w X.outer X.iZ X.df E (.ref ea) nC) Ex s':=by
 have J:=l.inv I;have yZ:=hh;rw[eU] at yZ;unfold leaving;refine aa (wpAny_noteFrame_againW hf yZ.2.2.2 ?_);refine wpAny_landsW yZ λmW fl us=>?_;obtain⟨k1,k2,⟨_,_,k3⟩,k4⟩:=fl;refine BL J eU hex hf (λb o e n q=>l.rm b o e n (q.imp id λ⟨o0,q⟩=>I.base.there b o0 q (by rw[hex];simp))) (λb hb o e=>?_) ⟨k1,k2,k3,k4⟩ hE;obtain⟨o1,e1,nf⟩:=xh J hb;rw[e] at e1;cases e1;exact us b o e nf
def wN(X:Cx)(Ξ:XK):Prop:=∀(pins:List (Addr×Obj)) (Z:St) (H:Hp) (s:Shared) (h':Heap) (ea C:Addr) (vs:List Value),Inv X pins Z H s->Heap.MadeExcOf s.heap h' ea (.ref C) vs->Ξ (.ref C) none H->X.xe (.ref ea) { s with heap:=h' }
def uW(X:Cx)(Ξ:XK):Prop:=∀(pins:List (Addr×Obj)) (Z:St) (H H':Hp) (s s':Shared) (B:Heap) (ea C:Addr) (a0:Value),Inv X pins Z H s->Lies X H H' s B ea C a0 s'->Heap.HeldW B X.stack ea (.ref C) a0 X.env.locals s'.heap->Ξ (.ref C) none H'->X.xe (.ref ea) s'
def MJ(C:Addr)(Ξ:XK)(t:TA):TS:=λ_ Z H=>t Z H λvs H1=>vs.length<=sizeLine/\Ξ (.ref C) none H1
theorem Zr{x:Str}{B newId gq:String}{bm:List Value}{np dS:Pos}{ju:Expr}{rest:List Expr}{t:TA}{Ξ:XK}(hc:X.calm=true)(O:OwnCls x C bm newId X.mg X.base)(FB:ExcBaseFacts B newId gq bm)(hg:Gl X x)(ha:PA X (ju::rest) t)(hr:wN X Ξ)(he:starEach (ju::rest) X.env=(false,eval ju X.env)::starEach rest X.env)(eG:(backTo dS (starEach rest X.env)).any (·.1)=false)(hd:(x==("__debug__":Str))=false) :
  PS X (.Raise (some (.Call (.Name x np) (ju::rest) [] dS)) none pos) (MJ C Ξ t):=by
 intro pins s Z H D I h;obtain⟨tl,N,nm,q,bs,hdct,sn,sub,ab,col,dd,k0,k1,k2,k3,k5,mN,hC,hN,wc,T⟩:=O.obj;refine wpAny_Raise_call_subT (C:=C) (nm:=nm) (q:=q) (N:=N) (bs:=bs) (bm:=tl) (hdct:=hdct) (sn:=sn) (sub:=sub) (ab:=ab) (col:=col) (dd:=dd) (k0:=k0) (k1:=k1) (k2:=k2) (k3:=k3) (k5:=k5)
  FB (mN:=mN) (T.hasType FB.hasBase) (I.ok.hd hc) (by rw[he];show(false||(backTo dS (starEach rest X.env)).any (·.1))=false;rw[eG];rfl) wc (P8 I hg O.bound ⟨rfl,?_⟩ hd)
 have h':=ha dS pins s Z H _ I h;rw[he] at h' ⊢;refine gh (aV h' (λvs fb gw=>?_) λ_ _ y=>y);obtain⟨ws,H1,I1,rv,hz,hE⟩:=gw;exact⟨rfl,by rw[<- rv.length];exact hz,I1.bk _ _ hC,hN.keeps I1.bk,T.keeps I1.bk,λh2 ea hm=>hr pins Z H1 fb h2 ea C vs I1 hm hE⟩
def X6(X:Cx)(pins:List (Addr×Obj))(xe:Value->Shared->Prop):Cx:={ X with pn:=X.pn++pins,xe:=xe }
def F6(X:Cx)(ea:Addr):Cx:={ X with A:=X.A.mark (some (.ref ea)),calm:=false,xe:=λ_ _=>False }
theorem Inv.Ux{xe:Value->Shared->Prop}(I:Inv X pins Z H s):Inv (X6 X pins xe) [] Z H s :=
 ⟨⟨I.ok.mod,I.ok.kind,I.ok.glob,I.ok.blt,I.ok.above,I.ok.inj,I.ok.has,I.ok.fQ,I.ok.hd,I.ok.frames,I.ok.pH,I.ok.uy,I.ok.bs,I.ok.mJ,I.ok.jN,I.ok.kA,I.ok.M8,I.ok.mX⟩,I.os,I.bare,I.base,I.loc,I.cell,I.free,I.et,
  λp hp=>I.pin p (by simpa [X6] using hp),I.bw,I.len⟩
theorem Inv.qO{xe:Value->Shared->Prop}{iK:List (Addr×Obj)}(I:Inv (X6 X pins xe) iK Z H s):Inv X pins Z H s :=
 ⟨⟨I.ok.mod,I.ok.kind,I.ok.glob,I.ok.blt,I.ok.above,I.ok.inj,I.ok.has,I.ok.fQ,I.ok.hd,I.ok.frames,I.ok.pH,I.ok.uy,I.ok.bs,I.ok.mJ,I.ok.jN,I.ok.kA,I.ok.M8,I.ok.mX⟩,I.os,I.bare,I.base,I.loc,I.cell,I.free,I.et,
  λp hp=>I.pin p (cY _ hp),I.bw,I.len⟩
theorem Inv.Hk(I:Inv X pins Z H s):Inv (F6 X ea) pins Z H s :=
 ⟨⟨I.ok.mod,I.ok.kind,I.ok.glob,I.ok.blt,I.ok.above,I.ok.inj,I.ok.has,I.ok.fQ,λz=>(by cases z),I.ok.frames,I.ok.pH,I.ok.uy,I.ok.bs,I.ok.mJ,I.ok.jN,I.ok.kA,I.ok.M8,I.ok.mX⟩,I.os,I.bare,I.base,I.loc,I.cell,I.free,I.et,I.pin,I.bw,I.len⟩
theorem Inv.sm(J:X.Ok)(I:Inv (F6 X ea) pins Z H s):Inv X pins Z H s :=
 ⟨J,I.os,I.bare,I.base,I.loc,I.cell,I.free,I.et,I.pin,I.bw,I.len⟩
theorem SP.qO{xe:Value->Shared->Prop}{D:Ends}{f:Flow}(h:SP (X6 X pins xe) [] D f s):SP X pins D f s:=by
 cases f with
 |next=>obtain⟨a,b,I,q⟩:=h;exact⟨a,b,I.qO,q⟩
 |brk=>obtain⟨a,b,I,q⟩:=h;exact⟨a,b,I.qO,q⟩
 |cont=>obtain⟨a,b,I,q⟩:=h;exact⟨a,b,I.qO,q⟩
 |ret u=>obtain⟨v,a,b,I,r,q⟩:=h;exact⟨v,a,b,I.qO,r,q⟩
theorem SP.sm{ea:Addr}{D:Ends}{f:Flow}(J:X.Ok)(h:SP (F6 X ea) pins D f s):SP X pins D f s:=by
 cases f with
 |next=>obtain⟨a,b,I,q⟩:=h;exact⟨a,b,I.sm J,q⟩
 |brk=>obtain⟨a,b,I,q⟩:=h;exact⟨a,b,I.sm J,q⟩
 |cont=>obtain⟨a,b,I,q⟩:=h;exact⟨a,b,I.sm J,q⟩
 |ret u=>obtain⟨v,a,b,I,r,q⟩:=h;exact⟨v,a,b,I.sm J,r,q⟩
def qH(X:Cx)(D:Ends)(C:Addr)(H:Hp):List ExceptHandler->Prop
 |.ExceptHandler (some (.Name x _)) none (uJ::oC) _::rest=>Gl X x/\(x==("__debug__":Str))=false/\∃C' b,X.mg x=some (.ref C')/\PySem.W.exmOne X.K (.ref C) (.ref C')=some b /\
   (if b=true then ∃t:TS,(∀ea,iP (F6 X ea) (uJ::oC) t)/\t D (List.replicate X.N.length none) H else qH X D C H rest)
 |[]=>∃Ξ:XK,uW X Ξ/\Ξ (.ref C) none H
 |_=>False
end
section
variable{pins:List (Addr×Obj)}{e:Value}{D:Ends}
def sg(X:Cx)(pins:List (Addr×Obj))(D:Ends)(hs:List ExceptHandler):Value->Shared->Prop:=λe bC =>
 wpAny (model X.prog X.w) X.A (noteFrame e X.env) (λ_ fb=>wpAny (model X.prog X.w) X.A (setFlight e none) (λ_ dy=>wpAny (model X.prog X.w) X.A (handleBy e X.env hs) (SP X pins D) X.xe dy) X.xe fb) X.xe bC
theorem Lies.step{h1:Heap}(I:Inv X pins Z H s)(l:Lies X H H' s B ea C a0 s')(st:B.StaysIn h1)(us:s'.heap.UpToSlots h1):Lies X H H' s B ea C a0 { s' with heap:=h1 }:=by
 have J:=l.inv I;obtain⟨u,ok,ib⟩:=ZY l.un l.bw l.rm st us λb hb=>⟨J.xg b hb,xh J hb⟩
 exact⟨l.os,l.bare,u,ok,ib⟩
theorem Yr{l:List Env}{L:Addr}{cls:Value}{A:Around}{M:Model}{E:Value->Shared->Prop}{Q:Unit->Shared->Prop}(fw:Heap.FlyingW B l ea cls a0 s.heap)(h:∀h',Heap.HeldW B l ea cls a0 L h'->(∀b o,s.heap.get? b=some o->(∀vs,o.data≠.fields vs)->h'.get? b=some o)->Q () { s with heap:=h' }):wpAny M A (setFlight (.ref ea) (some L)) Q E s:=by
 obtain⟨f1,f2,f3,oe,vs,T,oT,ts,he,nO,hd,h1,DM,DZ,hT,we,h3⟩:=fw;have tH:3<ts.size:=(Array.getElem?_eq_some_iff.mp h3).1;have other:∀b,b≠T->(s.heap.update T (Obj.mapFields (·.setIfInBounds 3 ((some L).elim Value.none λf=>rawInt f)))).get? b=s.heap.get? b :=
  λb hb=>bY _ _ (aZ hb)
 have jO:∀b o,s.heap.get? b=some o->(∀vs,o.data≠.fields vs)->b≠T:=λb o hb tM q=>by
  rw[q,hT] at hb;injection hb with hb;subst hb;exact tM ts we
 unfold setFlight;refine aa (jZ he hd h1 ?_);rw[aG (show(Value.ref T != Value.none)=true from by simp)];refine dD hT we tH (h _ ⟨λb o zd=>(other b λq=>by rw [q,DM] at zd;cases zd).trans (f1 b o zd),f2,
  f3.of_keeps λb o hb tM=>⟨o,(other b (jO b o hb tM)).trans hb,rfl⟩,?_⟩ λb o hb tM=>(other b (jO b o hb tM)).trans hb)
 exact⟨oe,vs,T,_,_,(other ea (aZ DZ)).trans he,nO,hd,h1,DM,DZ,aW _ hT (de (br we _)),br we _,by simp[tH]⟩
theorem FZ{B:Heap}{ea C:Addr}{a0:Value}(hf:X.env.frame=some X.env.locals):∀(hs:List ExceptHandler) (s':Shared),Inv X pins Z H s->Lies X H H' s B ea C a0 s'->Heap.FlyingW B X.stack ea (.ref C) a0 s'.heap->qH X D C H' hs ->
  wpAny (model X.prog X.w) X.A (handleBy (.ref ea) X.env hs) (SP X pins D) X.xe s'
 |[],s',I,l,fw,t=>by
  obtain⟨Ξ,hh,hE⟩:=t;refine wpAny_handleBy_nil ?_;unfold PySem.passOn;obtain⟨f1,f2,f3,oe,vs,T,oT,ts,he,nO,hd,h1,_⟩:=id fw;refine aa (jZ he hd h1 ?_);rw[az (by simp),hf];refine aa (Yr fw λh2 held k=>wpAny_throw ?_);have l2:=l.step I held.1 (λb o hb hn=>⟨o.slots,k b o hb hn⟩);exact hh pins Z H H' s _ B ea C a0 I l2 held hE
 |.ExceptHandler none _ _ _::_,_,_,_,_,t=>t.elim
 |.ExceptHandler (some e) nm bd pos::rest,s',I,l,fw,t=>by
  cases e
  case Name x np =>
   cases nm with
   |some y=>exact t.elim
   |none =>
    cases bd with
    |nil=>exact t.elim
    |cons uJ oC =>
     obtain⟨hg,gQ,C',b,hm,hx,q⟩:=t;have J:=l.inv I;have JM:Inv (F6 X ea) pins Z H' s':=J.Hk;have LT:PySem.W.Looks (model X.prog X.w) s'.heap (typeOf (.ref ea)) (.ref C):=λA Q E s2 k q=>by
      obtain⟨ob,ho,hc⟩:=fw.there;exact wpAny_typeOf_ref (k _ _ ho) (by rw[hc];exact q)
     refine wpAny_handleBy_cons (codeAny_handlers_test ?_) (by intro z;cases z);refine P8 (X:=F6 X ea) JM hg hm ?_ gQ;refine(PySem.W.exm_one (M:=model X.prog X.w) J.fU LT hx).here ?_;cases b with
     |false =>
      simp only[Bool.false_eq_true,if_false] at q;exact FZ hf rest s' I l fw q
     |true =>
      simp only[if_true] at q;obtain⟨t,ht,hq⟩:=q;refine codeAny_handlers_suite ?_;refine wpAny_setFlight_noneW fw.1 fw.2.2.1 fw.2.2.2.at λh2 k1 k2 k3 k4=>?_;have l2:=l.step I k1 (λb o hb hn=>⟨o.slots,k4 b o hb hn⟩);have J2:=l2.inv I;have J3:Inv (F6 X ea) pins (List.replicate X.N.length none) H' { s' with heap:=h2 }:=(J2.weak (by rw [iH,J2.len]) λi v z=>by
       rw [dq] at z;split at z <;> cases z).Hk
      refine aV (ht ea pins _ _ H' D J3 hq) (λf s2 hf=>hf.sm I.ok) λ_ _ z=>z.elim
  all_goals exact t.elim
theorem Qr{hs:List ExceptHandler}{Ξ:XK}(eU:X.stack=X.env::X.outer)(hf:X.env.frame=some X.env.locals)(hT:∀C H',Ξ (.ref C) none H'->qH X D C H' hs) :
  Passes (gN X.prog X.w) (X6 X pins (sg X pins D hs)) Ξ:=by
 intro iK Z H s e s' I0 h;have I:Inv X pins Z H s:=I0.qO;obtain⟨C,H',ho,hb,hu,bw,⟨ea,a0,B,rfl,fw,hB⟩,hE⟩:=h;have l:Lies X H H' s B ea C a0 s':=⟨ho,hb,hu,bw,hB⟩
 have fw:Heap.FlyingW B X.stack ea (.ref C) a0 s'.heap:=fw;show sg X pins D hs (.ref ea) s';unfold sg;have wt:=fw;rw[eU] at wt;refine wpAny_looks_onW (by rw[I.ok.frames,eU]) hf wt λh1 held us=>?_;have l1:=l.step I held.1 us;refine wpAny_landsW held λh2 fl Jq=>?_;have l2:=l1.step I fl.1 Jq;rw[<- eU] at fl;exact FZ hf hs _ I l2 fl (hT C H' hE)
theorem VX{hs:List ExceptHandler}{h₀:ExceptHandler}{body:List Stmt}{t:Ends->TS}{Ξ:Ends->XK}(eU:X.stack=X.env::X.outer)(hf:X.env.frame=some X.env.locals)(hb:∀pins D,(∀C H',Ξ D (.ref C) none H'->qH X D C H' (h₀::hs))->iP (X6 X pins (sg X pins D (h₀::hs))) body (t D)) :
  PS X (.Try body (h₀::hs) [] [] pos) (λD Z H=>(∀C H',Ξ D (.ref C) none H'->qH X D C H' (h₀::hs))/\t D D Z H):=by
 intro pins s Z H D I ⟨hT,h⟩;refine wpAny_Try_except (aV (hb pins D hT [] s Z H D I.Ux h) (λf s1 q=>?_) λe s1 q=>q);have q:=q.qO;cases f with
 |next =>
  obtain⟨bI,H',I',q⟩:=q;exact bZ (jA ⟨bI,H',I',q⟩) λ_ _ z=>z
 |brk=>exact q
 |cont=>exact q
 |ret u=>exact q
end
def CM(K:PySem.W.Frag)(a:Addr):It :=
 ⟨λi H=>∃xs x,ft K H a xs/\xs[i]?=some x,λi H v H'=>∃p x,H p=none/\v=.ref p/\(∀xs,ft K H a xs->xs[i]?=some x)/\H'=upd H p (.tup [.int i,x]),λi H=>∃xs,ft K H a xs/\xs.length<=i⟩
theorem Xk{P:Program}{K:PySem.W.Frag}{elts:List Expr}{x1:Nat}{tp:Pos}(a e it:Addr)(DU:e≠it):Turn P w K (.Tuple elts x1 tp) (CM K a) [e,it] e (λi h=>(∃old,IsEnum h e it i old)/\h.IsListIter it a i) where
 mem:=by simp
 obj:=λi h st b hb=>by
  obtain⟨⟨old,h1⟩,o,h2,c,d⟩:=st;rcases ay.mp hb with z|z
  ·subst z;exact ⟨_,h1,λv z=>by
    have z':Data.fields _=Data.cell v:=z;cases z'⟩
  ·have z:b=it:=by simpa using z
   subst z;exact⟨o,h2,λv z=>by rw[d] at z;cases z⟩
 keep:=λi h h' st k=>by
  obtain⟨⟨old,h1⟩,h2⟩:=st;exact⟨⟨old,k e (by simp) _ h1⟩,h2.at λo x=>k it (by simp) o x⟩
 item:=by
  intro X hP hw hK hc i pins s Z H E I hf st hg;subst hP hw hK;obtain⟨⟨old,h1⟩,h2⟩:=st;obtain⟨xs,x,hq,hx⟩:=hg;obtain⟨aO,rv,p,hz⟩:=I.list hq;obtain⟨u,hu,ru⟩:=rv.get hx;obtain⟨e0,e1,e2,e3,e4,e5⟩:=hf e (by simp);obtain⟨f0,f1,f2,f3,f4,f5⟩:=hf it (by simp);refine wpAny_pyNext_enum_item h1 h2 p.isList (x:=u) (by simpa using hu) DU λh' oO yX tG DF tR=>?_;refine⟨_,rfl,wpAny_letOwnedTupleGo_enum oO λuo KR gZ=>?_⟩;have gZ:Heap.SameBut e h' uo:=gZ;have elt:e<s.heap.objs.size:=av h1;have kp:∀b o,b≠e->b≠it->s.heap.get? b=some o->uo.get? b=some o:=λb o b1 b2 q=>(gZ.2 b b1).trans (tR b o b1 b2 q);have hn:H s.heap.objs.size=none:=I.bw.fresh (aj _);have pF:uo.get? s.heap.objs.size=some { cls:=.type "tuple",data:=.seq #[.int i s.toks,u] }:=(gZ.2 _ (bt elt)).trans tG;have ne:∀b u',H b=some u'->b≠e/\b≠it:=λb u' q=>And.intro (λ(z:b=e)=>by rw[z,e0] at q;cases q) (λ(z:b=it)=>by rw[z,f0] at q;cases q);have bw:fR X.prog X.w (upd H s.heap.objs.size (.tup [.int i,x])) uo:=λb o q=>by
   by_cases hb:b=s.heap.objs.size
   ·subst hb;rw[j6] at q;cases q;exact⟨by show 2<=sizeLine;decide,[.int i s.toks,u],.cons ⟨_,rfl⟩ (.cons ru .nil),_,pF,rfl,⟨_,rfl⟩,rfl⟩
   ·rw[d0 hb] at q;refine(I.bw b o q).U6 (λc v hc q'=>?_) (λc q'=>by rw[d0 (i0 q' hn)];exact q') λc ys q'=>by rw[d0 (i0 q' hn)];exact q'
    rcases hc with z|z
    ·subst z;exact kp _ _ (ne _ _ q).1 (ne _ _ q).2 q'
    ·exact kp _ _ (ne _ _ z).1 (ne _ _ z).2 q'
  have I2:Inv X pins Z (upd H s.heap.objs.size (.tup [.int i,x])) { s with heap:=uo,toks:=s.toks+1 }:=by
   refine I.step (g':=s.gens) (d':=s.drawn) (t':=s.toks+1) (ch:=[e,it]) (λb hb=>?_) (λb o _ _ hb q _=>kp b o (λz=>hb (by simp[z])) (λz=>hb (by simp[z])) q) (λb o _ _ hb q _=>⟨o.slots,kp b o (λz=>hb (by simp[z])) (λz=>hb (by simp[z])) q⟩)
    (λb o _ q n=>by rw[d0 (aI (av q))];exact n) (λb o hb q=>⟨o,kp b o (λz=>hb (by simp[z])) (λz=>hb (by simp[z])) q⟩)
    (λb ys q=>by rw[d0 (i0 q hn)];exact q) (λb o' ys q=>by rw[d0 (i0 q hn)];exact q) (λb ps q=>⟨#[],by rw[d0 (i0 q hn),q];simp⟩) (λm hm=>?_) bw I.bare
   ·rcases ay.mp hb with z|z
    ·subst z;exact⟨e3,e1,e4,e5⟩
    ·have z:b=it:=by simpa using z
     subst z;exact⟨f3,f1,f4,f5⟩
   ·obtain⟨o,es,ep,ho,r⟩:=hm;exact⟨o,es,ep,kp _ o (aZ e1) (aZ f1) ho,r⟩
  refine⟨.ref s.heap.objs.size,_,I2,rfl,⟨s.heap.objs.size,x,hn,rfl,λys hy=>by rw[I.AY hy hq];exact hx,rfl⟩,⟨⟨u,by simpa using KR⟩,yX.at λo y=>(gZ.2 it DU.symm).trans y⟩,λb hb=>?_⟩;have jd:b<s.heap.objs.size:=by
   rcases ay.mp hb with z|z
   ·subst z;exact elt
   ·have z:b=it:=by simpa using z
    subst z;obtain⟨o,h2,_⟩:=h2;exact av h2
  rw[d0 (aI jd)];exact(hf b hb).1
 done:=by
  intro X hP hw hK hc i pins s Z H E I hf st hg;subst hP hw hK;obtain⟨⟨old,h1⟩,h2⟩:=st;obtain⟨xs,hq,hx⟩:=hg;obtain⟨aO,rv,p,hz⟩:=I.list hq;obtain⟨f0,f1,f2,f3,f4,f5⟩:=hf it (by simp);have hl:=rv.length;exact wpAny_pyNext_enum_end (I.ok.hd hc) h1 h2 p.isList (by simp;omega) λh' eb=>⟨rfl,I.turned (t':=s.toks) (λb o hb e=>eb b o hb e) f0 f1 f3 f4 f5⟩
 self:=λ_ _ _ _ _ st h=>by
  obtain⟨⟨old,h1⟩,h2⟩:=st;exact wpAny_pyIter_enum h1 h
theorem Oh{l:Expr}{tp:Pos}{elts:List Expr}{x1:Nat}(hg:Gl X "enumerate")(hm:X.mg "enumerate"=none)(ha:PA X [l] ta)(hs:starEach [l] X.env=[(false,eval l X.env)]) :
  PI X (.Tuple elts x1 tp) (.Call (.Name "enumerate" p) [l] [] pos) (λZ H R=>ta Z H λvs H1=>∃a,vs=[.ref a]/\(∃xs,ft X.K H1 a xs)/\R (CM X.K a) H1):=by
 intro pins s Z H R I h;refine Call_ (O5 I hg hm PyProof.Rows.boot_enumerate (bK (bZ (ha pos pins s Z H _ I h) λus s1 aT=>?_) hs rfl));obtain⟨vs,H1,I1,r1,q1⟩:=aT;obtain⟨a,e,⟨xs,hq⟩,q⟩:=q1;subst e;cases r1 with
 |cons r rr =>
  cases rr;cases r;obtain⟨aO,rv,p,hz⟩:=I1.list hq;refine call_enumerate_list p.isList λh' he hit hsz hk=>wpAny_pyIter_enum he ?_;refine⟨s1.heap.objs.size+1,[s1.heap.objs.size+1,s1.heap.objs.size],_,_,H1,rfl,I1.kept (t':=s1.toks) hk,Xk a _ _ (by simp),⟨⟨_,he⟩,hit⟩,λb hb=>?_,q⟩;have jd:s1.heap.objs.size<=b:=by
   rcases ay.mp hb with z|z
   ·rw[z];exact fB _
   ·have z:b=s1.heap.objs.size:=by simpa using z
    rw[z];exact aj _
  exact I1.nY jd (I1.bw.fresh jd)
theorem TL{e:Expr}{t:TE}(he:PE X e t):PE X (.FormattedValue e (-1) none pos) (λZ H Q=>t Z H λx H1=>(∃i,x=.int i/\i.natAbs.log2<1920/\Q (.str (toString i)) H1)\/∃y,x=.str y/\y.length<=sizeLine/\Q (.str y) H1):=by
 intro pins s Z H Q I h;refine wpAny_FormattedValue_plain (bZ (he pins s Z H _ I h) λv s1 aT=>?_);obtain⟨x,H1,I1,r1,q1⟩:=aT;rcases q1 with⟨i,rfl,hd,q⟩|⟨y,rfl,hy,q⟩
 ·obtain⟨t,rfl⟩:=r1;exact wpAny_formatField_int hd ⟨.str _,H1,I1.tok _,⟨_,rfl⟩,q⟩
 ·obtain⟨t,rfl⟩:=r1;exact wpAny_formatField_str ⟨.str _,H1,I1,⟨_,rfl⟩,q⟩ ⟨.str _,H1,I1.tok _,⟨_,rfl⟩,q⟩ hy
inductive sA(X:Cx):List Expr->List TE->Prop
 |nil:sA X [] []
 |cons {e:Expr} {t:TE} {es:List Expr} {ts:List TE} (h:PE X e t) (r:sA X es ts):sA X (e::es) (t::ts)
def xQ:List TE->St->Hp->Str->(Str->Hp->Prop)->Prop
 |[],_,H,acc,Q=>Q acc H
 |t::ts,Z,H,acc,Q=>t Z H λx H1=>∃y,x=.str y/\(acc++y).length<=sizeLine/\xQ ts Z H1 (acc++y) Q
theorem Io{pins:List (Addr×Obj)}{Z:St}{Q:Str->Hp->Prop}:∀{es:List Expr} {ts:List TE},sA X es ts->∀{s:Shared} {H:Hp} {acc:Str},Inv X pins Z H s->xQ ts Z H acc Q ->
  Joins (model X.prog X.w) X.A X.xe (evalEach es X.env) acc (λout s1=>∃H1,Inv X pins Z H1 s1/\Q out H1) s
 |_,_,.nil,s,H,acc,I,h=>⟨H,I,h⟩
 |_,_,.cons he r,s,H,acc,I,h=>by
  rw[arm_evalEach_cons];refine bZ (he pins s Z H _ I h) λv s1 aT=>?_;obtain⟨x,H1,I1,r1,y,ey,hy,q1⟩:=aT;subst ey;obtain⟨t,rfl⟩:=r1;exact⟨y,t,rfl,hy,Io r I1 q1⟩
theorem Gn{M:Model}{A:Around}{E:Value->Shared->Prop}{Q Q':Str->Shared->Prop}(hq:∀x s,Q x s->Q' x s):∀{l:List (Sem Value)} {acc:Str} {s:Shared},Joins M A E l acc Q s->Joins M A E l acc Q' s
 |[],acc,s,h=>hq _ _ h
 |x::r,acc,s,h=>bZ h λv s1 ⟨y,t,e,hz,h1⟩=>⟨y,t,e,hz,Gn hq h1⟩
theorem Oc{kW kU:Expr}{rest:List Expr}{ts:List TE}(h:sA X (kW::kU::rest) ts):PE X (.JoinedStr (kW::kU::rest) pos) (λZ H Q=>xQ ts Z H Str.empty λout H1=>out.length<=sizeLine/\Q (.str out) H1):=by
 intro pins s Z H Q I hw;refine wpAny_JoinedStr (Gn (λx s1 ⟨H1,I1,hl,q⟩=>⟨hl,.str x,H1,I1.tok _,⟨_,rfl⟩,q⟩) (Io h I hw))
theorem Xy{lo:Int}{acc:Array Value}{n:Nat}(h:ItemsOf (λi v=>∃t,v=.int (lo+i*1) t) acc n):Vals ((List.range n).map λ(k:Nat)=>V.int (lo+k)) acc.toList:=by
 have hl:acc.toList.length=n:=by
  have:=h.1;simpa using this
 have go:∀(m:Nat) (l:List Value),l.length<=n->m+l.length=n->(∀i v,l[i]?=some v->∃t,v=Value.int (lo+((m+i:Nat):Int)) t)->Vals ((List.range' m l.length).map λ(k:Nat)=>V.int (lo+k)) l:=by
  intro m l
  induction l generalizing m with
  |nil=>intro _ _ _;exact .nil
  |cons x r ih =>
   intro h1 h2 h3;simp only[List.length_cons,List.range'_succ,List.map_cons];refine .cons ?_ (ih (m+1) (by simp at h1;omega) (by simp at h2;omega) λi v hv=>?_)
   ·obtain⟨t,e⟩:=h3 0 x rfl;exact⟨t,by rw[e];simp⟩
   ·obtain⟨t,e⟩:=h3 (i+1) v (by simpa using hv);exact⟨t,by rw[e,show m+(i+1)=m+1+i by omega]⟩
 have:=go 0 acc.toList (by omega) (by omega) λi v hv=>?_
 ·rw[hl,<- List.range_eq_range'] at this;exact this
 ·have hi:i<n:=by
   have:=(aD.mp hv).1;omega
  have:acc[i]?=some v:=by rw[<- fh];exact hv
  obtain⟨t,e⟩:=h.2 i v this;refine⟨t,?_⟩;rw[e];simp
theorem GY(hc:X.calm=true):m7 X (.type "list") (λxs H Q=>∃a lo hi,xs=[.ref a]/\H a=some (.lG lo hi)/\(-(2 ^ 62)<=lo/\lo<2 ^ 62/\-(2 ^ 62)<=hi/\hi<2 ^ 62/\hi-lo<=100000)/\∀p,H p=none->Q (.ref p) (upd H p (.lst ((List.range (hi-lo).toNat).map λ(k:Nat)=>V.int (lo+k))))):=by
 intro pins s Z H xs us Q I r h;obtain⟨a,lo,hi,rfl,ha,⟨h1,h2,h3,h4,h5⟩,q⟩:=h;obtain⟨t,u,v,ho⟩:=I.bw a _ ha;cases r with
 |cons r rr =>
 cases rr;cases r;have hn:Builtin.Range.rangeSize lo hi 1=((hi-lo).toNat:Nat):=by rw[rangeSize_one];split<;>omega
 refine call_list_range (n:=(hi-lo).toNat) (I.ok.hd hc) ho (small_one h1 h2 h3 h4) hn (by omega) λh' jb acc c hk hS lp=>?_;have hp:H s.heap.objs.size=none:=I.bw.fresh (aj _);refine⟨.ref _,_,I.laid (a:=s.heap.objs.size) (o:=.lst ((List.range (hi-lo).toNat).map λ(k:Nat)=>V.int (lo+k))) (t':=jb) hk (aj _) ⟨?_,acc.toList,c,Xy lp,by simpa using hS⟩,rfl,q _ hp⟩;rw[ao,List.length_range];have:(hi-lo).toNat<=100000:=by omega
 exact aJ this (by decide)
theorem a04{a:Expr}(hg:Gl X "range")(hm:X.mg "range"=none)(ha:PA X [a] ta)(hs:starEach [a] X.env=[(false,eval a X.env)]):PE X (.Call (.Name "range" p) [a] [] pos) (λZ H Q=>ta Z H λvs H1=>∃j:Int,vs=[.int j]/\∀q,H1 q=none->Q (.ref q) (upd H1 q (.lG 0 j))):=by
 intro pins s Z H Q I h;refine cG (O5 I hg hm boot_range (bK (bZ (ha pos pins s Z H _ I h) λus s1 aT=>?_) hs rfl));obtain⟨vs,H1,I1,r1,q1⟩:=aT;obtain⟨j,e,q⟩:=q1;subst e;cases r1 with
 |cons r rr =>
  cases rr;obtain⟨t,rfl⟩:=r;exact call_range_1 ⟨.ref s1.heap.objs.size,_,I1.laid (a:=s1.heap.objs.size) (o:=.lG 0 j) (λb o e=>ah _ e) (aj _) ⟨_,_,_,aw _ rfl⟩,rfl,q _ (I1.bw.fresh (aj _))⟩
theorem a03{a b:Expr}(hg:Gl X "range")(hm:X.mg "range"=none)(ha:PA X [a,b] ta)(hs:starEach [a,b] X.env=[(false,eval a X.env),(false,eval b X.env)])(gZ:starEach [b] X.env=[(false,eval b X.env)]):PE X (.Call (.Name "range" p) [a,b] [] pos) (λZ H Q=>ta Z H λvs H1=>∃i j:Int,vs=[.int i,.int j]/\∀q,H1 q=none->Q (.ref q) (upd H1 q (.lG i j))):=by
 intro pins s Z H Q I h;refine cG (O5 I hg hm boot_range (bK (bZ (ha pos pins s Z H _ I h) λus s1 aT=>?_) (by rw[hs,gZ]) (by rw[gZ];rfl)));obtain⟨vs,H1,I1,r1,q1⟩:=aT;obtain⟨i,j,e,q⟩:=q1;subst e;cases r1 with
 |cons r rr =>
  cases rr with
  |cons r' rr =>
   cases rr;obtain⟨t,rfl⟩:=r;obtain⟨t',rfl⟩:=r';exact call_range_2 ⟨.ref s1.heap.objs.size,_,I1.laid (a:=s1.heap.objs.size) (o:=.lG i j) (λb o e=>ah _ e) (aj _) ⟨_,_,_,aw _ rfl⟩,rfl,q _ (I1.bw.fresh (aj _))⟩
def uK(K:PySem.W.Frag)(P:Params)(a:Addr)(kvs:List (Str×V)):Prop :=
 ∃es n,K.lookup a=some ⟨.type "dict",none,.dict es n,#[]⟩/\PySem.W.KeysLit P es.toList/\(a==sysModules)=false/\∀x,E1 (kvs.lookup x) (findBy Value.isStrOf es x)
theorem IW{kvs:List (Str×V)}(neg:Bool):fu X (compareOp (if neg then .NotIn else .In)) (λx y H Q=>∃a z,y=.ref a/\uK X.K X.w.params a kvs/\x=.str z/\Q (.bl (xor neg (kvs.lookup z).isSome)) H):=by
 intro pins s Z H x y v u Q I rx ry h;obtain⟨a,z,rfl,⟨es,n,hl,hk,lo,hf⟩,rfl,q⟩:=h;obtain⟨t,rfl⟩:=rx;cases ry;have hm:=PySem.W.mapOf_K (prog:=X.prog) (w:=X.w) I.fU hl hk;have e:=hf z;have ee:(findBy Value.isStrOf es z).isSome=(kvs.lookup z).isSome:=by
  cases h1:kvs.lookup z<;>cases h2:findBy Value.isStrOf es z<;>rw[h1,h2] at e<;>first|rfl|exact e.elim
 cases neg
 ·exact wpAny_in_of (strKind_is X.prog X.w z t) lo hm ⟨.bl _,H,I.tok _,by rw[ee];rfl,by simpa using q⟩
 ·exact wpAny_notIn_of (strKind_is X.prog X.w z t) lo hm ⟨.bl _,H,I.tok _,by rw[ee];rfl,by simpa using q⟩
theorem Tc{kvs:List (Str×V)}:qS X (λx y H Q=>∃a z v,x=.ref a/\uK X.K X.w.params a kvs/\y=.str z/\kvs.lookup z=some v/\Q v H):=by
 intro value slice pins s Z H x y v u Q I rx ry h hs;obtain⟨a,z,d,rfl,⟨es,n,hl,hk,lo,hf⟩,rfl,hz,q⟩:=h;cases rx;obtain⟨t,rfl⟩:=ry;have hm:=PySem.W.mapOf_K (prog:=X.prog) (w:=X.w) I.fU hl hk;have e:=hf z;rw[hz] at e;cases h2:findBy Value.isStrOf es z with
 |none=>rw[h2] at e;exact e.elim
 |some r =>
  rw[h2] at e;exact tail_any hm.typeIs slot_dict_getitem.lookup (wpAny_getItem_of (strKind_is X.prog X.w z t) hm h2 ⟨d,H,I.tok _,e,q⟩) hs
theorem Ny(hu:X.A.units+1<cLine):qS X (λx y H Q=>∃a v,x=.ref a/\Z9 H a y (some v)/\Q v H):=by
 intro value slice pins s Z H x y v u Q I rx ry h hs;obtain⟨a,d,rfl,g,q⟩:=h;cases rx;exact tail_any (Yo I g) slot_dict_getitem.lookup (a45 hu I g ry λw' s3 I3 eW=>⟨d,H,I3,eW,q⟩) hs
end L2
namespace ST
open PySem PyProof.Rows
variable{xs:Array Nat}{i k j n ep:Nat}{t:SetTable}{h h':Heap}{L:Bool}{es:Array (Int×Value)}{x f:Value}{prog:Program}{w:World}{a I b l:Addr}{ks ns:List Int}{A:Around}{E Q:Value->Shared->Prop}{s:Shared}{pl:List Nat}{α:Type}{r:Rd}{items:Array Value}
noncomputable abbrev jY(xs:Array Nat):Prop:=xs.toList.Pairwise (· < ·)
theorem jY.lt(h:jY xs)(tU:i<k)(hk:k<xs.size):xs.getD i 0<xs.getD k 0:=by
 have:=gn.mp h i k (by simpa using cu tU hk) (by simpa using hk) tU;simp only[Array.getElem_toList] at this;rw[<- dM (h:=cu tU hk),<- dM (h:=hk)];exact this
theorem jY.le(h:jY xs)(tU:i<=k)(hk:k<xs.size):xs.getD i 0<=xs.getD k 0:=by
 rcases Nat.eq_or_lt_of_le tU with e|e
 ·rw[e];exact aj _
 ·exact cX (h.lt e hk)
theorem AI{xs:Array Nat}{j:Nat}(h:jY xs):∀(fuel lo hi:Nat),hi-lo<=fuel->lo<=hi->hi<=xs.size->(∀i,i<lo->xs.getD i 0<j)->(∀i,hi<=i->i<xs.size->j<=xs.getD i 0) ->
  SetTable.below.go xs j fuel lo hi<=xs.size/\(∀i,i<SetTable.below.go xs j fuel lo hi->xs.getD i 0<j)/\∀i,SetTable.below.go xs j fuel lo hi<=i->i<xs.size->j<=xs.getD i 0
 |0,lo,hi,h1,h2,h3,h4,h5=>by
  unfold SetTable.below.go;have:lo=hi:=by omega
  subst this;exact⟨h3,h4,h5⟩
 |fuel+1,lo,hi,h1,h2,h3,h4,h5=>by
  unfold SetTable.below.go;split
  ·rename_i hl;have hm:(lo+hi) / 2<xs.size:=by omega
   have em:xs.getD ((lo+hi) / 2) j=xs.getD ((lo+hi) / 2) 0:=by simp[Array.getD,hm]
   dsimp only;rw[em];by_cases hc:xs.getD ((lo+hi) / 2) 0<j
   ·rw[aG hc];exact AI h fuel _ hi (by omega) (by omega) h3 (λi lp=>jH (h.le (by omega) hm) hc) h5
   ·rw[az hc];exact AI h fuel lo _ (by omega) (by omega) (by omega) h4 λi lp hs=>aJ (kS hc) (h.le lp hs)
  ·have:lo=hi:=by omega
   subst this;exact⟨h3,h4,h5⟩
theorem U0(j:Nat)(h:jY xs):SetTable.below xs j<=xs.size/\(∀i,i<SetTable.below xs j->xs.getD i 0<j)/\∀i,SetTable.below xs j<=i->i<xs.size->j<=xs.getD i 0 :=
 AI h _ 0 _ (by omega) (by omega) (aj _) (λi hi=>absurd hi (Nat.not_lt_zero _)) λi h1 h2=>absurd h2 (by omega)
theorem below_at(h:jY xs)(hi:i<xs.size):SetTable.below xs (xs.getD i 0)=i:=by
 obtain⟨h1,h2,h3⟩:=U0 (xs.getD i 0) h;rcases kc (SetTable.below xs (xs.getD i 0)) i with z|z|z
 ·exact absurd (h3 _ (aj _) (by omega)) (Nat.not_le_of_lt (h.lt z hi))
 ·exact z
 ·exact absurd (h2 i z) (aX _)
theorem Xr(h:jY xs)(hi:i<xs.size):SetTable.below xs (xs.getD i 0+1)=i+1:=by
 obtain⟨h1,h2,h3⟩:=U0 (xs.getD i 0+1) h;rcases kc (SetTable.below xs (xs.getD i 0+1)) (i+1) with z|z|z
 ·have:=h3 i (by omega) hi;omega
 ·exact z
 ·have:=h2 (i+1) z;have:=h.lt (dX i) (k:=i+1) (by omega);omega
theorem Xs(h:jY xs):SetTable.below xs 0=0:=by
 obtain⟨_,h2,_⟩:=U0 0 h;rcases Nat.eq_zero_or_pos (SetTable.below xs 0) with z|z
 ·exact z
 ·exact absurd (h2 0 z) (Nat.not_lt_zero _)
theorem getD_mem(hi:i<xs.size):xs[i]?=some (xs.getD i 0):=by simp[Array.getD,hi]
theorem XX(h:jY t.place)(hs:t.slot j=.empty):j∉t.place.toList:=by
 intro hm;obtain⟨i,hi,e⟩:=dQ.mp hm;have lp:i<t.place.size:=by simpa using hi
 have ej:t.place.getD i 0=j:=by rw[<- dM (h:=lp)];simpa using e
 have hb:=below_at h lp;rw[ej] at hb;unfold SetTable.slot at hs;dsimp only at hs;rw[hb,getD_mem lp,ej] at hs;simp at hs
theorem XT(h:jY xs)(hj:j∉xs.toList):jY (SetTable.insertAt xs (SetTable.below xs j) j):=by
 obtain⟨h1,h2,h3⟩:=U0 j h;show(SetTable.insertAt xs (SetTable.below xs j) j).toList.Pairwise (· < ·);rw[SetTable.toList_insertAt,iS];have tk:∀a∈xs.toList.take (SetTable.below xs j),a<j:=λa ha=>by
  obtain⟨i,hi,e⟩:=dQ.mp ha;rw[cA] at hi;rw[kh] at e;have hs:i<xs.size:=by simp at hi;omega
  have:=h2 i (by omega);rw[<- dM (h:=hs)] at this;simp at e;omega
 have dp:∀b∈xs.toList.drop (SetTable.below xs j),j<b:=λb hb=>by
  obtain⟨i,hi,e⟩:=dQ.mp hb;rw[gW] at hi;rw[List.getElem_drop] at e;have hs:SetTable.below xs j+i<xs.size:=by simp at hi;omega
  have:=h3 (SetTable.below xs j+i) (by omega) hs;rw[<- dM (h:=hs)] at this;have fk:b≠j:=λz=>hj (by rw[<- z];exact List.mem_of_mem_drop hb);simp at e;omega
 refine⟨h.take,cO.mpr ⟨dp,h.drop⟩,λa ha b hb=>?_⟩;have ly:=tk a ha;rcases ay.mp hb with z|z
 ·omega
 ·have:=dp b z;omega
theorem Xb(n:Nat):jY (Array.range n):=by
 show(Array.range n).toList.Pairwise (· < ·);rw[Array.toList_range];exact sE
structure Well(L:Bool)(t:SetTable):Prop where
 vW:jY t.place
 Ae:t.dummies=#[]
 led:t.led=L
theorem Qo(hd:t.dummies=#[])(j:Nat):t.slot j≠.dummy:=by
 unfold SetTable.slot;dsimp only;split
 ·intro z;cases z
 ·rw[hd];split
  ·rename_i z;simp[SetTable.has] at z
  ·intro z;cases z
theorem GR{t:SetTable}(hd:t.dummies=#[]){hashAt:Nat->Int}{h:Int}:∀(fuel:Nat) (p:SetTable.Probe) {j:Nat} {dm:Option Nat},p.dummy=none->SetTable.probe.go t hashAt h fuel p=some (.empty j dm)->t.slot j=.empty/\dm=none
 |0,p,j,dm,_,e=>by simp[SetTable.probe.go] at e
 |fuel+1,p,j,dm,hp,e=>by
  unfold SetTable.probe.go at e;have ad:∀q:SetTable.Probe,q.dummy=none->(t.advance q).dummy=none:=λq hq=>by
   unfold SetTable.advance;split
   ·exact hq
   ·exact hq
  split at e
  ·rename_i hs;cases e;exact⟨hs,hp⟩
  ·rename_i hs;exact absurd hs (Qo hd _)
  ·split at e
   ·cases e
   ·exact GR hd fuel _ (ad p hp) e
theorem a39(hd:t.dummies=#[]){h:Int}{wd:Bool}(e:t.freeSlot h=some (j,wd)):t.slot j=.empty/\wd=false:=by
 unfold SetTable.freeSlot at e;split at e
 ·rename_i j' dm hp;obtain⟨h1,h2⟩:=GR hd _ _ rfl hp;subst h2;cases e;exact⟨h1,rfl⟩
 ·cases e
theorem N5(h:Well L t)(n:Nat):Well L (t.standIn n):=⟨Xb n,rfl,h.led⟩
theorem Yt{h:Int}(hw:Well L t):Well L (layNew t es h x).2.1/\(layNew t es h x).2.2.1=false:=by
 unfold layNew;split
 ·rename_i slot wd e;obtain⟨h1,h2⟩:=a39 hw.Ae e;refine⟨?_,h2⟩;have hd:SetTable.has t.dummies slot=false:=by rw[hw.Ae];simp[SetTable.has]
  have w2:Well L (t.put slot).1:=⟨XT hw.vW (XX hw.vW h1),by simp only[SetTable.put,hd];exact hw.Ae,hw.led⟩
  dsimp only;unfold SetTable.orStandIn;split
  ·exact w2
  ·exact N5 w2 _
 ·exact⟨N5 hw _,rfl⟩
theorem a26{mask finger moves:Nat}{led plain:Bool}{hashes:Array Int}{o:Array Nat}(hl:led=L)(e:SetTable.laid mask finger moves led plain hashes=some (t,o)):Well L t:=by
 unfold SetTable.laid at e;cases ho:SetTable.layClean mask hashes with
 |none=>rw[ho] at e;cases e
 |some owner =>
  rw[ho] at e;simp only[Option.bind_eq_bind,Option.bind_some,Option.pure_def,Option.some.injEq,Prod.mk.injEq] at e;obtain⟨rfl,_⟩:=e;refine⟨?_,rfl,hl⟩;show(List.map _ _).toArray.toList.Pairwise (· < ·);rw[List.toList_toArray];have sub:((List.range (mask+1)).filterMap λj=>(owner.getD j none).map (j,·)).map (·.1) |>.Sublist (List.range (mask+1)):=by
   generalize List.range (mask+1)=l
   induction l with
   |nil=>simp
   |cons a r ih =>
    rw[ei];cases owner.getD a none with
    |none=>exact ih.cons a
    |some k=>exact ih.cons_cons a
  exact vP sub sE
theorem Wy(hw:Well L t):Well L (relayAll t es n).2.1:=by
 unfold relayAll;split
 ·rename_i t' order e;dsimp only;split
  ·exact a26 hw.led e
  ·exact N5 hw _
 ·exact N5 hw _
def toI:Value->Int
 |.int k _=>k
 |_=>0
def Led(w:World):Bool:=!(w.params.followText "set-order")
def p9(prog:Program)(w:World)(h:Heap)(a:Addr)(ks:List Int):Prop :=
 ∃o es ep t,h.get? a=some o/\o.ExactSet/\o.data=.set es ep t/\ElemsOf (intKind prog w) es.toList/\(es.toList.map λe=>toI e.2).Perm ks/\ks.Nodup/\es.size<scanBound/\t.fits es.size=true/\Well (Led w) t
theorem p9.at(x:p9 prog w h a ks)(k:∀o,h.get? a=some o->h'.get? a=some o):p9 prog w h' a ks:=by
 obtain⟨o,es,ep,t,e,r⟩:=x;exact⟨o,es,ep,t,k o e,r⟩
theorem wW{e:Int×Value}{es:List (Int×Value)}(h:ElemsOf (intKind prog w) es)(he:e∈es):∃tk,e.2=.int (toI e.2) tk/\e.1=(intKind prog w).hash (toI e.2):=by
 obtain⟨⟨k,h1,h2⟩,_⟩:=h e he;obtain⟨t,ht⟩:=nk (k:=k) (v:=e.2) h1;refine⟨t,by rw[ht];rfl,?_⟩;rw[h2,ht]
 rfl
theorem IP{e:Int×Value}{es:List (Int×Value)}(h:ElemsOf (intKind prog w) es)(he:e∈es)(k:Int):(intKind prog w).is k e.2=decide (toI e.2=k):=by
 obtain⟨t,ht,_⟩:=wW h he;show Value.isInt k e.2=_;rw[ht];generalize toI e.2=m;show Value.isInt k (.int m t)=decide (m=k);by_cases z:m=k
 ·subst z;simp[Value.isInt]
 ·rw[ax z];cases hv:Value.isInt k (.int m t) with
  |false=>rfl
  |true =>
   obtain⟨t',e'⟩:=nk hv;cases e';exact absurd rfl z
theorem p9.mem{a:Addr}{es:List (Int×Value)}(h:ElemsOf (intKind prog w) es)(hp:(es.map λe=>toI e.2).Perm ks)(k:Int):(es.findIdx? λe=>(intKind prog w).is k e.2).isSome=decide (k∈ks):=by
 rw[bG,cc,<- hp.mem_iff,au,eF];constructor
 ·rintro⟨i,hi⟩;obtain⟨h1,h2,_⟩:=jX.mp hi;have hm:=dY h1;rw[IP h hm] at h2;exact⟨_,hm,aN h2⟩
 ·rintro⟨e,he,rfl⟩;cases hf:es.findIdx? λe'=>(intKind prog w).is (toI e.2) e'.2 with
  |some i=>exact⟨i,rfl⟩
  |none =>
   have:=List.findIdx?_eq_none_iff.mp hf e he;rw[IP h he] at this;simp at this
def E7(ks:List Int)(k:Int):List Int:=if k∈ks then ks else ks++[k]
theorem Pm(ks:List Int)(k:Int):(E7 ks k).length<=ks.length+1:=by unfold E7;split<;>simp
theorem ED{k:Int}{tk:Tok}{Q:Bool->Shared->Prop}(hS:p9 prog w s.heap a ks)(hr:ks.length+1<scanBound)(h:∀h' b,Heap.SameBut a s.heap h'->p9 prog w h' a (E7 ks k)->Q b { s with heap:=h' }):wpAny (model prog w) A (setAddHashed a (.int k tk) ((intKind prog w).hash k)) Q E s:=by
 obtain⟨o,es,ep,t,ho,hx,hd,my,hp,hn,hb,hf,hw⟩:=hS;have hlen:es.size=ks.length:=by rw[<- hp.length_eq];simp
 have lj:(intKind prog w).is k (.int k tk)=true:=eE _ _ _ _;have gv:∀(b:Bool) (s1:Shared) (Q':Unit->Shared->Prop),Q' () s1->wpAny (model prog w) A (match b with|true=>rule "set.scan.the-table-gave-way"|false=>pure ()) Q' E s1:=λb s1 Q' q=>by
  cases b
  ·exact ai q
  ·exact fc q
 unfold setAddHashed setAddHashedIn;refine bq (aa (cy ho hd hf ?_));dsimp only;rw[byScan_of rfl hb my,aG rfl];unfold setAddByScan;refine aa (aa (fc (aa (wpAny_setScan_of lj ho hd hf my ?_))));have hm:=p9.mem (a:=a) my hp k;cases tJ:es.toList.findIdx? (λe=>(intKind prog w).is k e.2) with
 |some j =>
  rw[tJ] at hm;have hk:k∈ks:=by simpa using hm.symm
  refine ai (ai ?_);have e0:s={ s with heap:=s.heap }:=rfl;rw[e0];refine h s.heap _ (Heap.SameBut.refl a s.heap) ?_;unfold E7;rw[aG hk];exact⟨o,es,ep,t,ho,hx,hd,my,hp,hn,hb,hf,hw⟩
 |none =>
  rw[tJ] at hm;have hk:k∉ks:=by simpa using hm.symm
  dsimp only;have p1:=layNew_perm t es ((intKind prog w).hash k) (.int k tk);have f1:=layNew_fits t es ((intKind prog w).hash k) (.int k tk);obtain⟨w1,ye⟩:=Yt (es:=es) (h:=(intKind prog w).hash k) (x:=.int k tk) hw;generalize layNew t es ((intKind prog w).hash k) (.int k tk)=R1 at p1 f1 w1 ye ⊢;obtain⟨gR,t1,wd,Ly⟩:=R1;dsimp only at p1 f1 w1 ye ⊢;subst ye;rw[Array.toList_push] at p1;have Ei:ElemsOf (intKind prog w) gR.toList:=(my.push lj rfl).perm p1;have sz1:gR.size=es.size+1:=by rw[<- dk,p1.length_eq];simp
  have k1:(gR.toList.map λe=>toI e.2).Perm (E7 ks k):=by
   unfold E7;rw[az hk];refine(p1.map _).trans ?_;rw[cv];exact hp.append_right _
  have n1:(E7 ks k).Nodup:=by
   unfold E7;rw[az hk,gB];exact⟨hn,by simp,λx hx y hy=>by simp at hy;subst hy;exact λz=>hk (z▸hx)⟩
  refine aa (gv _ _ _ ?_);have fin:∀ (t2:SetTable),t2.fits gR.size=true->Well (Led w) t2->wpAny (model prog w) A (do
    storeSet a gR t2
    if(!false&&t2.tooFull)=true then do
      (match(relayAll t2 gR (SetTable.grown gR.size)).2.2 with|true=>rule "set.scan.the-table-gave-way"|false=>pure ())
      storeSet a (relayAll t2 gR (SetTable.grown gR.size)).1 (relayAll t2 gR (SetTable.grown gR.size)).2.1
      pure (some true)
     else pure (some true)) (λr s'=>wpAny (model prog w) A (match r with | some added=>pure added | none=>setAddHashedIn a (.int k tk) ((intKind prog w).hash k) 99999) Q E s') E s:=λt2 f2 w2=>by
   have g1:(s.heap.update a (Obj.putSet gR t2)).get? a=some { o with data:=.set gR (ep+1) t2 }:=by
    have:=aW (Obj.putSet gR t2) ho (by rw[putSet_of gR t2 hd];rfl);rw[putSet_of gR t2 hd] at this;exact this
   refine aa (wpAny_storeSet_of ho hd ?_ (fits_of_scanBound (by omega)));have Dk:=cb s.heap a (Obj.putSet gR t2);split
   ·have p2:=relayAll_perm t2 gR (SetTable.grown gR.size);have f3:=relayAll_fits t2 gR (SetTable.grown gR.size);have w3:=Wy (es:=gR) (n:=SetTable.grown gR.size) w2;generalize relayAll t2 gR (SetTable.grown gR.size)=R2 at p2 f3 w3 ⊢;obtain⟨qk,t3,gv2⟩:=R2;dsimp only at p2 f3 w3 ⊢;have sz2:qk.size=gR.size:=by rw[<- dk,p2.length_eq,dk]
    refine aa (gv _ _ _ ?_);refine aa (wpAny_storeSet_of g1 rfl ?_ (fits_of_scanBound (by omega)));refine ai (ai (h _ _ (Dk.trans (cb _ a _)) ?_));have g2:((s.heap.update a (Obj.putSet gR t2)).update a (Obj.putSet qk t3)).get? a=some { o with data:=.set qk (ep+1+1) t3 }:=by
     have:=aW (Obj.putSet qk t3) g1 (by rw[putSet_of qk t3 rfl];rfl);rw[putSet_of qk t3 rfl] at this;exact this
    exact⟨_,qk,_,t3,g2,hx,rfl,Ei.perm p2,(p2.map _).trans k1,n1,by omega,f3,w3⟩
   ·exact ai (ai (h _ _ Dk ⟨_,gR,_,t2,g1,hx,rfl,Ei,k1,n1,by omega,f1 |> λ_=>f2,w2⟩))
  split
  ·refine aa (eB (hashByValue_scannable 8 rfl) ?_);exact fin _ f1 w1
  ·refine aa (ai ?_);exact fin _ f1 w1
theorem YW:entryFor table "set.__iter__"=some Builtin.«frozenset.__iter__» :=
 xU (id':="frozenset.__iter__") (by kernel_rfl) rfl (by decide +kernel) (by kernel_rfl)
theorem E4:Slot "set_iterator" "__next__" "set_iterator.__next__" :=
 .of (owner:="set_iterator") (n:="__next__") (by rw[gk,dW];kernel_rfl) (by decide +kernel) (by decide +kernel) (by decide +kernel)
  (by first|exact .inl (by decide +kernel)|exact .inr (by decide +kernel)) (by rw[fA];kernel_rfl)
theorem GK:entryFor table "set_iterator.__next__"=some Builtin.«set_iterator.__next__»:=entryFor_of_tree (by kernel_rfl)
theorem GV(a:Value):argsOk "set_iterator.__next__" ⟨[a],[]⟩:=by
 unfold argsOk
 kernel_rfl
theorem GX:Slot "set_iterator" "__iter__" "set_iterator.__iter__" :=
 .of (owner:="set_iterator") (n:="__iter__") (by rw[gk,dW];kernel_rfl) (by decide +kernel) (by decide +kernel) (by decide +kernel)
  (by first|exact .inl (by decide +kernel)|exact .inr (by decide +kernel)) (by rw[fA];kernel_rfl)
theorem Yq:entryFor table "set_iterator.__iter__"=some Builtin.«dict_keyiterator.__iter__» :=
 xU (id':="dict_keyiterator.__iter__") (by kernel_rfl) rfl (by decide +kernel) (by kernel_rfl)
theorem YQ(a:Value):argsOk "set_iterator.__iter__" ⟨[a],[]⟩:=by
 unfold argsOk
 kernel_rfl
inductive Rd|text|plain|drawn
structure Lies(h:Heap)(a:Addr)(es:Array (Int×Value))(ep:Nat)(t:SetTable):Prop where
 at_:∃o,h.get? a=some o/\o.cls=.type "set"/\o.data=.set es ep t
 fit:t.fits es.size=true
theorem Lies.at(x:Lies h a es ep t)(k:∀o,h.get? a=some o->h'.get? a=some o):Lies h' a es ep t :=
 ⟨let ⟨o,e,r⟩:=x.at_;⟨o,k o e,r⟩,x.fit⟩
def F0(h:Heap)(I a:Addr)(f:Value)(i n ep:Nat):Prop:=∃o,h.get? I=some o/\o.cls=.type "set_iterator"/\o.data=.fields #[f,rawInt i,.ref a,rawInt n,rawInt ep]
theorem F0.at(x:F0 h I a f i n ep)(k:∀o,h.get? I=some o->h'.get? I=some o):F0 h' I a f i n ep:=let ⟨o,e,r⟩:=x;⟨o,k o e,r⟩
theorem F0.ty(x:F0 s.heap I a f i n ep):s.TypeIs (.ref I) "set_iterator":=let ⟨o,e,c,_⟩:=x;⟨o,e,c⟩
def uR(w:World)(a:Addr)(es:Array (Int×Value))(ep:Nat)(pl:List Nat):Rd->List Value
 |.text=>(pickOrder (w.params.setOrder a ep) es).toList.map (·.2)
 |.plain=>es.toList.map (·.2)
 |.drawn=>pl.map λj=>(es.getD j (0,.none)).2
def slotAt(t:SetTable):Nat->Nat
 |0=>0
 |i+1=>t.place.getD i 0+1
def Q6(h:Heap)(t:SetTable)(b:Addr)(pl:List Nat)(i:Nat)(f:Value):Rd->Prop
 |.text=>∃k:Nat,f=rawInt k
 |.plain=>f=rawInt (slotAt t i)
 |.drawn=>f=.ref b/\∃o e,h.get? b=some o/\o.cls=.type "tuple"/\o.data=.seq (pl.map λj=>rawInt (j:Nat)).toArray e
def rK(w:World)(es:Array (Int×Value))(t:SetTable)(pl:List Nat):Rd->Prop
 |.text=>w.params.followText "set-order"=true
 |.plain=>w.params.followText "set-order"=false/\(t.plain=true\/es.size<=1)/\Well true t
 |.drawn=>w.params.followText "set-order"=false/\pl.Perm (List.range es.size)
theorem uY{Q:Bool->Shared->Prop}(h:Q (w.params.followText "set-order") s):wpAny (model prog w) A setsByText Q E s:=by
 unfold setsByText;exact aa (pA (ai h))
theorem Gh(hL:Lies s.heap a es ep t)(ht:w.params.followText "set-order"=true){sl g:Nat}{Q:Option (Value×Nat)->Shared->Prop}(h:Q (((pickOrder (w.params.setOrder a ep) es)[g]?).map λe=>(e.2,sl)) s) :
  wpAny (model prog w) A (setNext a sl g ep) Q E s:=by
 obtain⟨o,ho,_,hd⟩:=hL.at_;unfold setNext;refine aa (cy ho hd hL.fit ?_);refine aa (uY ?_);rw[ht,aG rfl,az (by simp)];unfold setWalk;refine aa (aa (cy ho hd hL.fit ?_));refine aa (uY ?_);rw[ht,aG rfl];exact aa (pA (ai (ai h)))
theorem GC(hL:Lies s.heap a es ep t)(ht:w.params.followText "set-order"=false)(hp:t.plain=true\/es.size<=1)(hl:t.led=true){sl g:Nat}{Q:Option (Value×Nat)->Shared->Prop}(h:Q (match es[SetTable.below t.place sl]?,t.place[SetTable.below t.place sl]? with|some (_,x),some j=>some (x,j+1)|_,_=>none) s):wpAny (model prog w) A (setNext a sl g ep) Q E s:=by
 obtain⟨o,ho,_,hd⟩:=hL.at_;unfold setNext;refine aa (cy ho hd hL.fit ?_);refine aa (uY ?_);rw[ht,az (by decide)];show wpAny _ _ (if(!t.plain&&decide (es.size>1))=true then _ else _) _ _ _;rw[az (by rcases hp with e|e<;>simp[e])];refine aa (eB (a:=()) ?_ (ai h));show((if(!t.led&&!es.isEmpty)=true then unsupported "set:maker-not-led" else pure ()):Sem Unit)=pure ();rw[hl]
 rfl
theorem XO(hL:Lies s.heap a es ep t)(hj:j<es.size)(h:Q (es.getD j (0,.none)).2 s):wpAny (model prog w) A (setNextDrawn a j ep) Q E s:=by
 obtain⟨o,ho,_,hd⟩:=hL.at_;unfold setNextDrawn;refine aa (cy ho hd hL.fit ?_);dsimp only;rw[az (by simp)];have e:es[j]?=some (es.getD j (0,.none)):=by simp[Array.getD,hj]
 rw[e];exact ai h
theorem IE(hL:Lies s.heap a es ep t):t.place.size=es.size:=by
 have:=hL.fit;unfold SetTable.fits at this;simp at this;exact this.1
theorem Gp(hw:jY t.place)(hi:i<=t.place.size):SetTable.below t.place (slotAt t i)=i:=by
 cases i with
 |zero=>exact Xs hw
 |succ i=>exact Xr hw (by omega)
theorem entries{Q:Array (Int×Value)->Shared->Prop}(hL:Lies s.heap a es ep t)(h:Q es s):wpAny (model prog w) A (setEntries a) Q E s:=by
 obtain⟨o,ho,_,hd⟩:=hL.at_;unfold setEntries;exact aa (cy ho hd hL.fit (ai h))
theorem QL{f':Value}(hi:F0 h I a f i n ep)(hx:x=rawInt ((i:Int)+1)):F0 ((h.update I (Obj.mapFields (·.setIfInBounds 0 f'))).update I (Obj.mapFields (·.setIfInBounds 1 x))) I a f' (i+1) n ep:=by
 obtain⟨o,ho,hc,hd⟩:=hi;have h1:=aW (Obj.mapFields (·.setIfInBounds 0 f')) ho (de (br hd _));have d1:(Obj.mapFields (·.setIfInBounds 0 f') o).data=.fields #[f',rawInt i,.ref a,rawInt n,rawInt ep]:=by rw[br hd];simp
 have h2:=aW (Obj.mapFields (·.setIfInBounds 1 x)) h1 (de (br d1 _));refine⟨_,h2,(nt ..).trans ((nt ..).trans hc),?_⟩;rw[br d1];subst hx;simp[rawInt]
theorem QK(hi:F0 h I a f i n ep)(hx:x=rawInt ((i:Int)+1)):F0 (h.update I (Obj.mapFields (·.setIfInBounds 1 x))) I a f (i+1) n ep:=by
 obtain⟨o,ho,hc,hd⟩:=hi;have h2:=aW (Obj.mapFields (·.setIfInBounds 1 x)) ho (de (br hd _));refine⟨_,h2,(nt ..).trans hc,?_⟩;rw[br hd];subst hx;simp[rawInt]
theorem Ew{f':Value}{m:Sem α}{Q':α->Shared->Prop}(hi:F0 s.heap I a f i n ep)(hx:x=rawInt ((i:Int)+1))(h:∀h',F0 h' I a f' (i+1) n ep->Heap.SameBut I s.heap h'->wpAny (model prog w) A m Q' E { s with heap:=h' }) :
  wpAny (model prog w) A (do setField (.ref I) 0 f';setField (.ref I) 1 x;m) Q' E s:=by
 obtain⟨o,ho,hc,hd⟩:=id hi;refine aa (dD ho hd (by simp) ?_);have h1:=aW (Obj.mapFields (·.setIfInBounds 0 f')) ho (de (br hd _));have d1:(Obj.mapFields (·.setIfInBounds 0 f') o).data=.fields #[f',rawInt i,.ref a,rawInt n,rawInt ep]:=by rw[br hd];simp
 refine aa (dD (s:={ s with heap:=_ }) h1 d1 (by simp) ?_);exact h _ (QL hi hx) ((cb ..).trans (cb ..))
theorem RG{m:Sem α}{Q':α->Shared->Prop}(hi:F0 s.heap I a f i n ep)(hx:x=rawInt ((i:Int)+1))(h:∀h',F0 h' I a f (i+1) n ep->Heap.SameBut I s.heap h'->wpAny (model prog w) A m Q' E { s with heap:=h' }) :
  wpAny (model prog w) A (do setField (.ref I) 1 x;m) Q' E s:=by
 obtain⟨o,ho,hc,hd⟩:=id hi;refine aa (dD ho hd (by simp) ?_);exact h _ (QK hi hx) (cb ..)
theorem Bd(next:Nat->Nat)(xs:Array α):(pickOrder next xs).toList.Perm xs.toList:=by
 have go:∀(fuel k:Nat) (left:List α) (out:Array α),fuel=left.length->(pickOrder.go next fuel k left out).toList.Perm (out.toList++left):=by
  intro fuel
  induction fuel with
  |zero =>
   intro k left out e;have:left=[]:=bu e.symm;subst this;simp[pickOrder.go]
  |succ n ih =>
   intro k left out e;have dC:next k % left.length<left.length:=Nat.mod_lt _ (by omega)
   unfold pickOrder.go;rw[aC dC];refine(ih _ _ _ (by rw[nu dC];omega)).trans ?_;rw[Array.toList_push,eZ];refine List.Perm.append_left _ ?_;have:left.Perm (left[next k % left.length]::left.eraseIdx (next k % left.length)):=by
    rw[kC]
    conv=>lhs;rw[<- iF (next k % left.length) left,dZ dC]
    exact List.perm_middle
   exact this.symm
 have:=go xs.size 0 xs.toList #[] (by simp);simpa[pickOrder] using this
theorem next_item{Q:Option Value->Shared->Prop}(hL:Lies s.heap a es ep t)(hr:rK w es t pl r)(hi:F0 s.heap I a f i es.size ep)(hf:Q6 s.heap t b pl i f r)(fk:b≠I)(dC:i<es.size)(h:∀v h' f',(uR w a es ep pl r)[i]?=some v->F0 h' I a f' (i+1) es.size ep->Q6 h' t b pl (i+1) f' r->Heap.SameBut I s.heap h'->Q (some v) { s with heap:=h' }):wpAny (model prog w) A (pyNext (.ref I)) Q E s:=by
 obtain⟨o,ho,hc,hd⟩:=id hi;unfold pyNext;refine aa (wpAny_attempt (fg (name:=Str.ofString "__next__") hi.ty E4 (bL E4 hi.ty GK ?_ (GV _))));unfold Builtin.«set_iterator.__next__»;refine aa (ai ?_);refine aa (wpAny_fieldsOf ho hd ?_);dsimp only[rawInt];refine aa (entries hL ?_);rw[az (by simp)];rw[da,da];cases r with
 |text =>
  obtain⟨k,rfl⟩:=hf;dsimp only[rawInt];refine aa (Gh hL hr ?_);have hl:i<(pickOrder (w.params.setOrder a ep) es).size:=by
   have:=(Bd (w.params.setOrder a ep) es).length_eq;simp at this;omega
  rw[gp hl];refine Ew hi rfl λh' h1 h2=>ai ⟨_,rfl,ai (h _ _ _ ?_ h1 ⟨_,rfl⟩ h2)⟩;show((pickOrder (w.params.setOrder a ep) es).toList.map (·.2))[i]?=_;simp[hl]
 |plain =>
  obtain⟨r1,r2,r3⟩:=hr;have hs:=IE hL;obtain rfl:=hf;dsimp only[rawInt];rw[da];refine aa (GC hL r1 r2 r3.led ?_);rw[Gp r3.vW (by omega),gp dC,getD_mem (by omega)];refine Ew hi rfl λh' h1 h2=>ai ⟨_,rfl,ai (h _ _ _ ?_ h1 rfl h2)⟩;show(es.toList.map (·.2))[i]?=_;simp[dC]
 |drawn =>
  obtain⟨r1,r2⟩:=hr;obtain⟨rfl,ob,e,hb,DY,wj⟩:=hf;have gj:i<pl.length:=by rw[r2.length_eq];simpa using dC
  dsimp only;refine aa (wpAny_seqItems hb wj ?_);have hj:pl[i]<es.size:=by
   have:=r2.mem_iff.mp (dY gj);simpa using this
  have e1:(pl.map λj=>rawInt (j:Nat)).toArray[i]?=some (rawInt (pl[i]:Nat)):=by simp[gj]
  dsimp only;rw[e1];dsimp only[rawInt];rw[da];refine aa (XO hL hj ?_);refine RG hi rfl λh' h1 h2=>ai ⟨_,rfl,ai (h _ _ _ ?_ h1 ⟨rfl,ob,e,by rw[h2.2 b fk];exact hb,DY,wj⟩ h2)⟩;show(pl.map λj=>(es.getD j (0,.none)).2)[i]?=_;simp[gj]
theorem Be{Q:Option Value->Shared->Prop}{h0:Heap}(hh:A.handled=none)(Ls:Heap.ExtBut I h0 s.heap)(h:∀h',Heap.ExtBut I h0 h'->Q none { s with heap:=h' }) :
  wpAny (model prog w) A.in1 (newExc (.type "StopIteration") [] >>= λe=>(raiseNew e:Sem Fin)) (λfin s'=>∃v,fin=Fin.done (Flow.ret v)/\wpAny (model prog w) A (pure (some v)) Q E s')
   (λe s'=>wpAny (model prog w) A (do
     let x <- isInstance e (Value.type "StopIteration")
     if x=true then pure none else throw e) Q E s') s:=by
 refine aa ?_;simp only[newExc,newTuple];refine aa (bD ?_ (by size_fits));refine aa (m:=firstArgMember _ _) (eB (a:=Value.none) (by first|rfl|(simp only[firstArgMember];rfl)) ?_);refine bD ?_ (by size_fits);simp only[raiseNew];refine aa (wpAny_handled ?_);rw[show A.in1.handled=none from hh];refine aa (ai (wpAny_throw ?_));refine aa (fS (T:="StopIteration") (b:=true) ⟨_,aw _ rfl,rfl⟩ isSubtype_stop ?_);exact ai (h _ ((Ls.push _).push _))
theorem next_end{Q:Option Value->Shared->Prop}(hh:A.handled=none)(hL:Lies s.heap a es ep t)(hr:rK w es t pl r)(hi:F0 s.heap I a f es.size es.size ep)(hf:Q6 s.heap t b pl es.size f r)(fk:b≠I)(h:∀h',Heap.ExtBut I s.heap h'->Q none { s with heap:=h' }):wpAny (model prog w) A (pyNext (.ref I)) Q E s:=by
 obtain⟨o,ho,hc,hd⟩:=id hi;unfold pyNext;refine aa (wpAny_attempt (fg (name:=Str.ofString "__next__") hi.ty E4 (bL E4 hi.ty GK ?_ (GV _))));unfold Builtin.«set_iterator.__next__»;refine aa (ai ?_);refine aa (wpAny_fieldsOf ho hd ?_);dsimp only[rawInt];refine aa (entries hL ?_);rw[az (by simp)];rw[da,da];cases r with
 |text =>
  obtain⟨k,rfl⟩:=hf;dsimp only[rawInt];refine aa (Gh hL hr ?_);have hl:(pickOrder (w.params.setOrder a ep) es).size<=es.size:=by
   have:=(Bd (w.params.setOrder a ep) es).length_eq;simp at this;omega
  rw[sJ hl];refine aa (dD ho hd (by simp) ?_);exact Be (s:={ s with heap:=_ }) hh (cb ..).extBut h
 |plain =>
  obtain⟨r1,r2,r3⟩:=hr;have hs:=IE hL;obtain rfl:=hf;dsimp only[rawInt];rw[da];refine aa (GC hL r1 r2 r3.led ?_);rw[Gp r3.vW (by omega),sJ (aj _)];refine aa (dD ho hd (by simp) ?_);exact Be (s:={ s with heap:=_ }) hh (cb ..).extBut h
 |drawn =>
  obtain⟨r1,r2⟩:=hr;obtain⟨rfl,ob,e,hb,DY,wj⟩:=hf;have gj:pl.length=es.size:=by rw[r2.length_eq];simp
  dsimp only;refine aa (wpAny_seqItems hb wj ?_);have e1:(pl.map λj=>rawInt (j:Nat)).toArray[es.size]?=none:=by simp[gj]
  dsimp only;rw[e1];dsimp only[rawInt];refine aa (dD ho hd (by simp) ?_);have h1:=aW (Obj.mapFields (·.setIfInBounds 0 (Value.int 0 0))) ho (de (br hd _));refine aa (dD (s:={ s with heap:=_ }) h1 (br hd _) (by simp) ?_);exact Be (s:={ s with heap:=_ }) hh ((cb ..).trans (cb ..)).extBut h
theorem a00{l:List α}(dC:k<l.length):(l[k]::l.eraseIdx k).Perm l:=by
 rw[kC]
 conv=>rhs;rw[<- iF k l,dZ dC]
 exact List.perm_middle.symm
theorem Gw{α:Type}:∀(n:Nat) (xs:List α) (s:Shared) (Q:List α->Shared->Prop),n=xs.length->(∀ys d,ys.Perm xs->Q ys { s with drawn:=d })->wpAny (model prog w) A (drawOrder n xs) Q E s
 |0,xs,s,Q,e,h=>by
  have:xs=[]:=bu e.symm;subst this;exact ai (h [] s.drawn (nv _))
 |n+1,[],s,Q,e,h=>by simp at e
 |n+1,x::xs,s,Q,e,h=>by
  unfold drawOrder;refine aa ?_;intro Γ p hΓ;refine⟨by simp,?_⟩;generalize (model prog w).w.draws .order (s.drawn.get .order)=k;have dC:k % (x::xs).length<(x::xs).length:=Nat.mod_lt _ (by simp);have go:wpAny (model prog w) A (match (x :: xs)[k % (x :: xs).length]? with
   |some y=>do
    let ys <- drawOrder n ((x::xs).eraseIdx (k % (x::xs).length))
    pure (y::ys)
   | none=>unsupported "internal:drawOrder") Q E { s with drawn:=s.drawn.bump .order }:=by
   rw[aC dC];refine aa (Gw n _ _ _ (by rw[nu dC];simp at e ⊢;omega) λys d hp=>ai ?_);exact h _ d ((List.Perm.cons _ hp).trans (a00 dC))
  exact go
theorem Iu(hr:rK w es t pl r):(uR w a es ep pl r).Perm (es.toList.map (·.2)):=by
 cases r with
 |text=>exact(Bd _ es).map _
 |plain=>exact nv _
 |drawn =>
  refine(hr.2.map _).trans ?_;have:(List.range es.size).map (λj=>(es.getD j (0,.none)).2)=es.toList.map (·.2):=by
   apply List.ext_getElem
   ·simp
   ·intro i h1 h2;simp at h1;simp[Array.getD,h1]
  rw[this]
theorem Lies.ty(hL:Lies s.heap a es ep t):s.TypeIs (.ref a) "set":=let ⟨o,e,c,_⟩:=hL.at_;⟨o,e,c⟩
theorem ZK(hL:Lies s.heap a es ep t)(hw:Well (Led w) t)(hz:es.size<=10000)(h:∀r pl b f I h' d',rK w es t pl r->F0 h' I a f 0 es.size ep->Q6 h' t b pl 0 f r->b≠I->(b=a\/s.heap.objs.size<=b)->(∀c o,s.heap.get? c=some o->h'.get? c=some o)->s.heap.objs.size<=I->s.heap.objs.size<=h'.objs.size->Q (.ref I) { s with heap:=h',drawn:=d' }) :
  wpAny (model prog w) A (pyIter (.ref a)) Q E s:=by
 obtain⟨o,ho,yT,hd⟩:=hL.at_;refine nj hL.ty F.slot_set_iter (bL F.slot_set_iter hL.ty YW ?_ (F.args_set_iter_1 _));unfold Builtin.«frozenset.__iter__»;refine aa (ai ?_);unfold Builtin.Frozenset.sizeOf;refine aa (aa (entries hL (ai ?_)));unfold setDrawn;refine aa (aa (cy ho hd hL.fit ?_));refine aa (uY (ai ?_));have dC:=av ho;have fin:∀(r:Rd) (f:Value) (b:Addr) (pl:List Nat) (h1:Heap) (d1:Drawn),rK w es t pl r->(∀h',(∀c o,h1.get? c=some o->h'.get? c=some o)->Q6 h' t b pl 0 f r)->b<h1.objs.size->(b=a\/s.heap.objs.size<=b)->(∀c o,s.heap.get? c=some o->h1.get? c=some o)->s.heap.objs.size<=h1.objs.size ->
   wpAny (model prog w) A.in1 (do
    let e <- setEpoch a
    ret (<- newFields "set_iterator" [f,rawInt 0,.ref a,rawInt es.size,rawInt e])) (λfin s'=>∃ v,fin=Fin.done (Flow.ret v)/\∃ T' r,s'.TypeIs v T'/\typeLookup (.type T') "__next__"=pure (some r)/\Q v s') E { s with heap:=h1,drawn:=d1 }:=λr f b pl h1 d1 hr hf hb La he hsz=>by
  have mV:Lies h1 a es ep t:=hL.at λo e=>he a o e;obtain⟨o1,Ku,_,KU⟩:=mV.at_;unfold setEpoch;refine aa (aa (cy (s:={ s with heap:=h1,drawn:=d1 }) Ku KU mV.fit (ai ?_)));refine aa (bD (ai ⟨_,rfl,"set_iterator",_,⟨_,aw _ rfl,rfl⟩,E4.lookup,?_⟩));refine h r pl b f h1.objs.size _ d1 hr ⟨_,aw _ rfl,rfl,rfl⟩ (hf _ λc o e=>ah _ e) (aI hb) La (λc o e=>ah _ (he c o e)) hsz (by rw[gP];exact ke hsz)
 have e0:s={ s with heap:=s.heap,drawn:=s.drawn }:=rfl;cases hT:w.params.followText "set-order" with
 |true =>
  dsimp only[Bool.not_true,Bool.false_and];rw[az (by simp)];refine aa (ai ?_);rw[e0];exact fin .text (rawInt 0) a [] s.heap s.drawn hT (λh' _=>⟨0,rfl⟩) dC (.inl rfl) (λc o e=>e) (aj _)
 |false =>
  show wpAny _ _ (if(!false&&(!t.plain&&decide (es.size>1)))=true then _ else _ ) _ _ _;by_cases hp:t.plain=true\/es.size<=1
  ·rw[az (by rcases hp with e|e<;>simp[e])];refine aa (ai ?_);rw[e0];refine fin .plain (rawInt 0) a [] s.heap s.drawn ⟨hT,hp,?_⟩ (λh' _=>rfl) dC (.inl rfl) (λc o e=>e) (aj _);have:Led w=true:=by unfold Led;rw[hT];rfl
   rw[<- this];exact hw
  ·have h1:t.plain=false:=by cases hq:t.plain with|true=>exact absurd (.inl hq) hp|false=>rfl
   have h2:¬es.size<=1:=λz=>hp (.inr z);rw[aG (by simp[h1];omega)];refine aa (Gw _ _ _ _ (List.length_range).symm λys d hy=>?_);have hl:ys.length=es.size:=by rw[hy.length_eq];simp
   refine aa (bD ?_ (by show(List.map _ ys).toArray.size<=sizeLine;rw[aA,ao,hl];exact aJ hz (by decide)));refine fin .drawn (.ref s.heap.objs.size) s.heap.objs.size ys _ d ⟨hT,hy⟩ (λh' hk=>⟨rfl,_,_,hk _ _ (aw _ rfl),rfl,rfl⟩) (by rw[gP];exact dX _) (.inr (aj _)) (λc o e=>ah _ e) (by rw[gP];exact fB _)
theorem Xe(hh:A.handled=none)(hr:rK w es t pl r)(fk:b≠I)(Kw:a≠I) :
  Walks prog w A I [I,a,b] [I] es.size (λi v=>(uR w a es ep pl r)[i]?=some v) (λi h=>Lies h a es ep t/\∃f,F0 h I a f i es.size ep/\Q6 h t b pl i f r) where
 sub:=λc hc=>by simp at hc;simp[hc]
 frame:=λi h h' st hk=>by
  obtain⟨hL,f,hi,hf⟩:=st;refine⟨hL.at λo e=>hk a (by simp) o e,f,hi.at λo e=>hk I (by simp) o e,?_⟩;cases r with
  |text=>exact hf
  |plain=>exact hf
  |drawn =>
   obtain⟨e1,o,e,h1,h2⟩:=hf;exact⟨e1,o,e,hk b (by simp) o h1,h2⟩
 item:=λi s Q E hi st hQ=>by
  obtain⟨hL,f,hI,hf⟩:=st;exact next_item hL hr hI hf fk hi λv h' f' hv h1 h2 h3=>hQ v h' s.toks hv ⟨hL.at λo e=>by rw[h3.2 a Kw];exact e,f',h1,h2⟩ λc o hc e=>h3.extBut c o (λz=>hc (by simp[z])) e
 done:=λs Q E st hQ=>by
  obtain⟨hL,f,hI,hf⟩:=st;exact next_end hh hL hr hI hf fk λh' he=>hQ h' s.toks λc o hc e=>he c o (λz=>hc (by simp[z])) e
 self:=λi s Q E st hQ=>by
  obtain⟨hL,f,hI,hf⟩:=st;refine nj hI.ty GX (bL GX hI.ty Yq ?_ (YQ _));exact aa (ai (ai ⟨_,rfl,"set_iterator",_,hI.ty,E4.lookup,hQ⟩))
theorem YY:typeLookup (.type "set") "__len__"=pure (some (.builtin "set.__len__")):=by rw[gk,dW];kernel_rfl
theorem YJ(hh:A.handled=none)(hL:Lies s.heap a es ep t)(hw:Well (Led w) t)(hz:es.size<=10000){Q:List Value->Shared->Prop}(h:∀(vs:List Value) h' d' jb,vs.Perm (es.toList.map (·.2))->(∀c o,s.heap.get? c=some o->h'.get? c=some o)->s.heap.objs.size<=h'.objs.size->s.toks<=jb->Q vs { s with heap:=h',drawn:=d',toks:=jb }) :
  wpAny (model prog w) A (collect (.ref a)) Q E s:=by
 have dC:a<s.heap.objs.size:=let ⟨o,ho,_⟩:=hL.at_;av ho
 unfold collect;refine aa (xT (dg F.entry_proto_collect ?_));rw[cJ F.plain_proto_collect _];show wpAny _ A.in1 (newList [] >>= λl=>again (.builtin "list.__iadd__" ⟨[l,.ref a],[]⟩)) _ _ s;refine aa (bD ?_);refine ai ⟨fV iz _,dg F.entry_list_iadd ?_⟩;rw[cJ iz _];have mV:Lies (s.heap.push { cls:=.type "list",data:=.seq ([]:List Value).toArray }) a es ep t:=hL.at λo e=>ah _ e;have zi:(s.heap.push { cls:=.type "list",data:=.seq ([]:List Value).toArray }).get? s.heap.objs.size=some { cls:=.type "list",data:=.seq ([]:List Value).toArray }:=aw _ rfl;have fk:s.heap.objs.size≠a:=bt dC;have h1:Builtin.List.listSameRef (.ref s.heap.objs.size) (.ref a)=false:=by simp[Builtin.List.listSameRef,fk]
 show wpAny _ A.in1 (Builtin.List.listExtendWith (.ref s.heap.objs.size) (.ref a) (.ref s.heap.objs.size)) _ _ _;unfold Builtin.List.listExtendWith;refine aa (dn (Lies.ty (s:={ s with heap:=_ }) mV) ?_);rw[az (by rw[h1];decide)];refine aa (ZK (s:={ s with heap:=_ }) mV hw hz λr pl b f I h2 d2 hr hI hf hb KY he zk h2z=>?_);have nP:Lies h2 a es ep t:=mV.at λo e=>he a o e;have oP:=he _ _ zi;refine aa (bq ?_);unfold Builtin.List.listLengthHint;refine aa (wpAny_specialOf (Lies.ty (s:={ s with heap:=h2,drawn:=d2 }) nP) YY ?_);generalize tV:("set.__len__":String)=yC;dsimp only;rw[show splitId yC=some ("set","__len__") from by subst tV;decide +kernel];dsimp only;refine aa (fS (b:=true) (Lies.ty (s:={ s with heap:=h2,drawn:=d2 }) nP) (by rw[fA];kernel_rfl) ?_);rw[az (by decide)];subst tV;rw[aG (by decide +kernel)];refine aa (dn (Lies.ty (s:={ s with heap:=h2,drawn:=d2 }) nP) ?_);refine ai ?_;rw[aG (by decide +kernel)];refine aa (fc ?_);refine aa ?_;show wpAny _ A.in1 (updateSeq s.heap.objs.size (·.push .none) >>= λ_=>updateSeq s.heap.objs.size (·.pop)) _ _ _;refine aa (jz (s:={ s with heap:=h2,drawn:=d2 }) oP rfl ?_);have ud:=aW (Obj.mapSeq (·.push Value.none)) oP rfl;refine jz (s:={ s with heap:=_,drawn:=d2 }) ud rfl ?_;have zh:=aW (Obj.mapSeq (·.pop)) ud rfl;have sS:∀c o,c≠s.heap.objs.size->h2.get? c=some o->((h2.update s.heap.objs.size (Obj.mapSeq (·.push Value.none))).update s.heap.objs.size (Obj.mapSeq (·.pop))).get? c=some o :=
  λc o hc e=>(bY _ _ (aZ hc)).trans ((bY _ _ (aZ hc)).trans e)
 have kH:s.heap.objs.size<(s.heap.push { cls:=.type "list",data:=.seq ([]:List Value).toArray }).objs.size:=by rw[gP];exact dX _
 have Lf:I≠s.heap.objs.size:=bt (ak kH zk);have hSb:b≠s.heap.objs.size:=by
  rcases KY with z|z
  ·rw[z];exact aZ fk
  ·exact bt (ak kH z)
 have W:=(Xe (prog:=prog) (w:=w) (A:=A.in1) (a:=a) (b:=b) (I:=I) (es:=es) (ep:=ep) (t:=t) (pl:=pl) hh hr hb (aI (ak (cu dC kH) zk))).toS;have st:Lies h2 a es ep t/\∃f,F0 h2 I a f 0 es.size ep/\Q6 h2 t b pl 0 f r:=⟨nP,f,hI,hf⟩
 have jk:=W.frame 0 ({ s with heap:=h2,drawn:=d2 }:Shared) _ s.toks st (aj _) λc hc o e=>sS c o (λz=>by simp at hc;rcases hc with y|y|y<;>simp_all) e;refine ai ⟨fV F.plain_extend_loop _,codeAny_extend_loopS W (aJ hz (by decide)) _ (λz=>by simp at z;rcases z with y|y|y<;>simp_all) _ es.size 0 _ _ _ rfl (bX _) jk zh (ItemsOf.nil _) λs' qP c' hm kK ir=>?_⟩;show wpAny _ A (load s.heap.objs.size >>= _) _ _ s';refine aa (wpAny_load kK ?_);refine ai ?_;have eS:s'={ s with heap:=s'.heap,drawn:=d2,toks:=s'.toks }:=by
  obtain⟨fI,g',d',jb,pN⟩:=s';have m1:g'=s.gens:=hm.gens;have m2:d'=d2:=hm.drawn;have m3:pN=s.os:=hm.os;subst m1;subst m2;subst m3
  rfl
 have eo:qP.toList=uR w a es ep pl r:=by
  have l1:(uR w a es ep pl r).length=es.size:=by rw[(Iu hr).length_eq];simp
  apply List.ext_getElem
  ·rw[l1];simpa using ir.1
  ·intro i h1 h2;have:=ir.2 i qP.toList[i] (by simp at h1 ⊢);dsimp only at this;rw[aC h2] at this;exact(aF this).symm
 rw[eo,eS];refine h _ _ d2 s'.toks (Iu hr) (λc o e=>?_) (cX (av kK)) hm.toks;have hc:c<s.heap.objs.size:=av e;have n1:c≠s.heap.objs.size:=aI hc;have n2:c≠I:=aI (ak (cu hc kH) zk);exact hm.heap c o (by simp[n1,n2]) (sS c o n1 (he c o (ah _ e)))
theorem XZ(hh:A.handled=none)(hS:p9 prog w s.heap a ks)(zr:ks.length<64)(h:∀(S:Addr) (vs:List Value) (ns:List Int) e h' d' jb,IntsAre vs ns->ns.Perm ks->ns.Pairwise (·<=·)->h'.get? S=some (seqObj "list" vs.toArray e)->s.heap.objs.size<=S->(∀c o,s.heap.get? c=some o->h'.get? c=some o)->s.toks<=jb->Q (.ref S) { s with heap:=h',drawn:=d',toks:=jb }) :
  wpAny (model prog w) A (call (.builtin "sorted") [.ref a]) Q E s:=by
 obtain⟨o,es,ep,t,ho,hx,hd,my,hp,hn,hb,hf,hw⟩:=hS;have hL:Lies s.heap a es ep t:=⟨⟨o,ho,hx.1,hd⟩,hf⟩
 have hz:es.size=ks.length:=by rw[<- hp.length_eq];simp
 refine ig kind_sorted plain_sorted entry_sorted (args_sorted1 _) ?_;unfold Builtin.«sorted»;refine aa (m:=checkCount "sorted" 1 1 _) (ai ?_);refine aa (YJ (A:=A.in1) hh hL hw (by omega) λvs h1 d1 pG hv he kH rn=>?_);have hI:IntsAre vs (vs.map toI):=by
  have all:∀v∈vs,∃tk,v=.int (toI v) tk:=λv tE=>by
   obtain⟨e,pY,rfl⟩:=au.mp (hv.mem_iff.mp tE);obtain⟨tk,h1,_⟩:=wW my pY;exact⟨tk,h1⟩
  clear hv
  induction vs with
  |nil=>exact .nil
  |cons v r ih =>
   obtain⟨tk,e⟩:=all v (by simp);have:=IntsAre.cons (toI v) tk (ih λu hu=>all u (by simp[hu]));rw[<- e] at this;exact this
 have hk:(vs.map toI).Perm ks:=by
  refine(hv.map toI).trans ?_;rw[bj];exact hp
 have hl:vs.length<64:=by rw[hv.length_eq];simp;omega
 refine aa (Ji (s:={ s with heap:=h1,drawn:=d1,toks:=pG }) ?_);have lb:(h1.push (seqObj "list" vs.toArray 0)).get? h1.objs.size=some (seqObj "list" vs.toArray 0):=aw _ rfl;refine aa (bq (bL (s:={ s with heap:=h1.push (seqObj "list" vs.toArray 0),drawn:=d1,toks:=pG }) slot_list_sort ⟨_,lb,rfl⟩ entry_list_sort (list_sort_tree lb hI hl λout jo a1 a2 a3=>⟨_,rfl,?_⟩) (args_list_sort _)));obtain⟨e,pY⟩:=sortedHeap_at (vs:=vs) (out:=out) lb;refine ai ⟨_,rfl,h h1.objs.size out.toList jo e _ d1 pG a1 (a2.trans hk) a3 pY kH (λc o' e'=>?_) rn⟩;have hc:=av (he c o' e');rw[sortedHeap_old (aI hc) (by rw[gP];exact kd hc)];exact ah _ (he c o' e')
def f9(ks xs:List Int):List Int:=xs.foldl E7 ks
theorem L4:∀(xs ks:List Int),(f9 ks xs).length<=ks.length+xs.length
 |[],ks=>by simp[f9]
 |x::xs,ks=>by
  have:=L4 xs (E7 ks x);have h2:=Pm ks x;show(f9 (E7 ks x) xs).length<=_;simp only[List.length_cons];omega
theorem Bz:∀(xs ks:List Int) (k:Int),k∈f9 ks xs↔k∈ks\/k∈xs
 |[],ks,k=>by simp[f9]
 |x::xs,ks,k=>by
  show k∈f9 (E7 ks x) xs↔_;rw[Bz xs];unfold E7;split
  ·rename_i h;constructor
   ·rintro(a|a)
    ·exact .inl a
    ·exact .inr (by simp[a])
   ·rintro(a|a)
    ·exact .inl a
    ·rcases ay.mp a with rfl|b
     ·exact .inl h
     ·exact .inr b
  ·simp[or_assoc]
theorem Xw:Well (Led w) (SetTable.fresh 0 0 (Led w)):=⟨by simp[jY,SetTable.fresh],rfl,rfl⟩
theorem FV(e:h.get? a=some { cls:=.type "set",dict:=none,data:=.set #[] 0 (.fresh 0 0 (Led w)) }):p9 prog w h a [] :=
 ⟨_,#[],0,_,e,⟨rfl,rfl,rfl⟩,rfl,(by intro e he;simp at he),by simp,by simp,by decide,by rfl,Xw⟩
theorem ZZ{R:Result->Shared->Prop}{fp wr:List Addr}{G:Array GenState->Array GenState->Prop}{P:Nat->Value->Prop}{St:Nat->Shared->Prop}(W:WalksS prog w A.in1 I fp wr G n P St)(Ea:a∉fp)(hn:n=ns.length)(hv:∀i v,P i v->∃tk,v=.int (ns.getD i 0) tk)(hb:n+1<scanBound):∀(k i:Nat) (s:Shared),i+k=n->St i s->p9 prog w s.heap a (f9 [] (ns.take i)) ->
   (∀s',Moved (a::wr) G s s'->p9 prog w s'.heap a (f9 [] ns)->R (.ok (.ret .none)) s')->codeAny (model prog w) A (.builtin "set.update.loop" ⟨[.ref a,.ref I],[]⟩) R s:=by
 have hw:a∉wr:=λh=>Ea (W.sub _ h);have sO:∀b∈wr,b∈a::wr:=λb hb=>by simp[hb]
 intro k
 induction k with
 |zero =>
  intro i s e st hS hR;obtain rfl:i=n:=by omega
  refine dg ji ?_;rw[cJ eh _];unfold Builtin.«set.update.loop»;refine aa (W.done s _ _ st λs' m=>ai (hR s' (m.mono sO) (p9.at ?_ λo e=>m.heap a o hw e)));rw[hn,cL] at hS;exact hS
 |succ k ih =>
  intro i s e st hS hR;have dC:i<ns.length:=by omega
  refine dg ji ?_;rw[cJ eh _];unfold Builtin.«set.update.loop»;refine aa (W.item i s _ _ (by omega) st λv s' hP kX m=>?_);obtain⟨tk,rfl⟩:=hv i v hP;have kK:=p9.at hS λo e=>m.heap a o hw e;have hl:=L4 (ns.take i) [];rw[cA] at hl;simp only[List.length_nil] at hl;refine aa (bq ?_);unfold setAdd;refine bq (aa ((intKind prog w).pyHash (k:=ns.getD i 0) (eE _ _ _ _) ?_));refine ED (s:={ s' with toks:=s'.toks+1 }) kK (by omega) λh' bb sb oP=>?_;have e2:E7 (f9 [] (ns.take i)) (ns.getD i 0)=f9 [] (ns.take (i+1)):=by
   unfold f9;rw[cE,List.foldl_append,aC dC];simp[List.getD,dC]
  rw[e2] at oP;refine ai ⟨fV eh _,ih (i+1) _ (by omega) (W.frame _ s' _ _ kX (fB _) λb hb o e=>by rw[sb.2 b λz=>Ea (z▸hb)];exact e) oP λs2 m2 h2=>?_⟩;exact hR s2 (Moved.trans W.gtrans ((m.mono sO).then_heap (fB _) λb o hb e=>by rw[sb.2 b λz=>hb (by rw[z];simp)];exact e) m2) h2
noncomputable abbrev v9(w:World):Obj:={ cls:=.type "set",dict:=none,data:=.set #[] 0 (.fresh 0 0 (Led w)) }
theorem HK(h:Q (.ref s.heap.objs.size) { s with heap:=s.heap.push (v9 w) }):wpAny (model prog w) A (newSet (.type "set")) Q E s:=by
 unfold newSet;refine aa (uY ?_);exact bD h (bX _)
theorem Px(x:Value)(h:Q (.ref s.heap.objs.size) { s with heap:=s.heap.push (v9 w) }):codeAny (model prog w) A (.call (.builtin "set.__new__") ⟨[.type "set",x],[]⟩) (wants Q E) s:=by
 refine sC (?_:wpAny _ A.in1 (do
  checkBuiltinCall "set.__new__" ⟨[.type "set",x],[]⟩
  again (.builtin "set.__new__" ⟨[.type "set",x],[]⟩)) _ _ s)
 refine aa (eB (F.newCall_set_1 x) (ai ⟨fV F.plain_set_new _,?_⟩));refine dg F.entry_set_new ?_;rw[cJ F.plain_set_new _];unfold Builtin.«set.__new__»;have sub:=sub_set_self;refine aa (m:=Builtin.Frozenset.newClass "set" _) ?_;unfold Builtin.Frozenset.newClass;dsimp only;refine aa (eB (a:=true) (by first|rfl|(simp[isType];rfl)) ?_);rw[az (by decide)];refine aa (eB sub ?_);rw[az (by decide)];refine ai ?_;exact aa (HK (ai h))
theorem xi{vs:List Value}(h:IntsAre vs ns):vs.length=ns.length:=by
 induction h with
 |nil=>rfl
 |cons n t r ih=>simp[ih]
def vn(h:Heap)(l:Addr)(items:Array Value):Prop:=h.IsList l items\/h.IsTuple l items
theorem vn.lt(x:vn h l items):l<h.objs.size:=by
 rcases x with⟨_,e,_⟩|⟨_,e,_⟩<;>exact av e
theorem Qc{Q:Fin->Shared->Prop}(hh:A.handled=none)(hS:s.heap.get? a=some (v9 w))(hl:vn s.heap l items)(hi:IntsAre items.toList ns)(hb:items.size+1<scanBound)(fk:a≠l)(h:∀h' tk,p9 prog w h' a (f9 [] ns)->(∀b o,b≠a->s.heap.get? b=some o->h'.get? b=some o)->s.toks<=tk->wpAny (model prog w) A (ret .none) Q E { s with heap:=h',toks:=tk }) :
  wpAny (model prog w) A (Builtin.«set.__init__» ⟨[.ref a,.ref l],[]⟩) Q E s:=by
 have hT:s.TypeIs (.ref a) "set":=⟨_,hS,rfl⟩
 have hLi:Lies s.heap a #[] 0 (SetTable.fresh 0 0 (Led w)):=⟨⟨_,hS,rfl,rfl⟩,rfl⟩
 have dC:=hl.lt;have DN:l≠s.heap.objs.size:=aI dC;unfold Builtin.«set.__init__» noKeywords;dsimp only;refine aa (eB (a:=()) rfl ?_);have nm:∀{Q':String->Shared->Prop},(∀x,Q' x s)->wpAny (model prog w) A (typeNameOfCut 200 (.ref a)) Q' E s:=λ{Q'} q=>by
  unfold typeNameOfCut shownTypeOf;refine aa (aa (dn hT ?_));rw[az (by decide)];refine ai (eB (a:="set") ?_ (q _));unfold typeNameCut;dsimp only
  first|(unfold typeName;rw[find?_eq_fast];kernel_rfl)|kernel_rfl
 refine aa (nm λx=>?_);refine aa (m:=checkCount _ 0 1 _) (ai ?_);refine aa (m:=Builtin.Frozenset.addrOf _) (ai ?_);unfold setUsed;refine aa (aa (cy hS rfl rfl (ai ?_)));rw[az (by show ¬((SetTable.fill (SetTable.fresh 0 0 (Led w)) != 0)=true);unfold SetTable.fill;simp[SetTable.fresh])];unfold Builtin.Frozenset.updateFrom Builtin.Frozenset.isAnySet;obtain⟨c,rE,zg,it,hit,DP,St,W,eU⟩:∃c:String,(c="list"\/c="tuple")/\s.TypeIs (.ref l) c/\∃it:Obj,(∀Q':Value->Shared->Prop,Q' (.ref s.heap.objs.size) { s with heap:=s.heap.push it }->wpAny (model prog w) A (pyIter (.ref l)) Q' E s) /\
   (∀b o,s.heap.get? b=some o->(s.heap.push it).get? b=some o)/\∃St:Nat->Shared->Prop,WalksS prog w A.in1 s.heap.objs.size [s.heap.objs.size,l] [s.heap.objs.size] (λa b=>b=a) items.size (λi v=>items[i]?=some v) St/\St 0 { s with heap:=s.heap.push it }:=by
  rcases hl with hl|hl
  ·obtain⟨o,ho,hc,_⟩:=id hl;exact⟨"list",.inl rfl,⟨o,ho,hc⟩,_,λQ' q=>iu hl q,λb o e=>ah _ e,_,(Walks.list (A:=A.in1) hh _ l DN items).toS,⟨⟨_,aw _ rfl,rfl,rfl⟩,hl.push _⟩⟩
  ·obtain⟨o,ho,hc,_⟩:=id hl;exact⟨"tuple",.inr rfl,⟨o,ho,hc⟩,_,λQ' q=>wpAny_pyIter_tuple hl q,λb o e=>ah _ e,_,(Walks.tuple (A:=A.in1) hh _ l DN items).toS,⟨⟨_,aw _ rfl,rfl,rfl⟩,hl.push _⟩⟩
 refine aa (aa (aa (fS (b:=false) zg (by rcases rE with rfl|rfl<;>(rw[fA];kernel_rfl)) ?_)));show wpAny (model prog w) A (isInstance (Value.ref l) (Value.type "frozenset")) _ _ _;refine fS (b:=false) zg (by rcases rE with rfl|rfl<;>(rw[fA];kernel_rfl)) ?_;rw[az (by decide)];refine aa (dn zg ?_);rw[az (by rcases rE with rfl|rfl<;>decide)];refine aa (hit _ ?_);refine aa (xT ?_);have Lc:a<s.heap.objs.size:=av hS;have hsz:items.size=ns.length:=by rw[<- dk];exact xi hi
 refine ZZ (a:=a) (ns:=ns) W (by simp only[List.mem_cons,List.not_mem_nil,or_false,not_or];exact⟨aI Lc,fk⟩) hsz (λi v hv=>IntsAre.int_at hi i v (by rw[fh];exact hv)) hb items.size 0 _ (by omega)
  eU (FV (DP _ _ hS)) λs' m kK=>?_
 have eS:s'={ s with heap:=s'.heap,toks:=s'.toks }:=by
  obtain⟨fI,g',d',jb,pN⟩:=s';have m1:g'=s.gens:=m.gens;have m2:d'=s.drawn:=m.drawn;have m3:pN=s.os:=m.os;subst m1;subst m2;subst m3
  rfl
 rw[eS];refine ai (h _ _ kK (λb o hb e=>?_) m.toks);exact m.heap b o (by simp only[List.mem_cons,List.not_mem_nil,or_false,not_or];exact⟨hb,aI (av e)⟩) (DP _ _ e)
theorem Ie(hh:A.handled=none)(hl:vn s.heap l items)(hi:IntsAre items.toList ns)(hb:items.size+1<scanBound)(h:∀h' tk,p9 prog w h' s.heap.objs.size (f9 [] ns)->(∀b o,s.heap.get? b=some o->h'.get? b=some o)->s.toks<=tk->Q (.ref s.heap.objs.size) { s with heap:=h',toks:=tk }) :
  wpAny (model prog w) A (call (.type "set") [.ref l]) Q E s:=by
 have cs:=F.called_set;obtain⟨_,_,y1⟩:=cs.mro;have y2:=cs.made;have y3:=cs.sub;have y4:=cs.notType;have y5:=cs.canCreate;have y6:=F.typeCall_set_1 (.ref l);refine wpAny_call (sC (?_:wpAny _ _ (callAny (.type "set") _) _ _ _));refine ai ⟨Code.quiet_builtin _ (by decide +kernel),dg F.entry_type_call ?_⟩;rw[Around.under_plain (weight_type_call_type "set" [.ref l] []) rfl]
 repeat (any_goals (first|assumption|wp_step))
 refine gD (Px (.ref l) (E:=E) (Q:=λv s1=>v=.ref s.heap.objs.size/\s1={ s with heap:=s.heap.push (v9 w) }) ⟨rfl,rfl⟩) ?_;rintro(e|fl) s1 hr
 ·exact hr
 cases fl with
 |next=>exact hr
 |brk=>exact hr
 |cont=>exact hr
 |ret v =>
 obtain⟨rfl,rfl⟩:=hr;have hS:(s.heap.push (v9 w)).get? s.heap.objs.size=some (v9 w):=aw _ rfl;have hT:Shared.TypeIs { s with heap:=s.heap.push (v9 w) } (.ref s.heap.objs.size) "set":=⟨_,hS,rfl⟩
 have y7:=cs.init.lookup;have y8:=cs.init.bind (.ref s.heap.objs.size)
 repeat (any_goals (first|assumption|wp_step))
 refine gD (codeAny_call_builtin (R:=wants (λv s2=>v=.none/\∃h' tk,s2={ s with heap:=h',toks:=tk }/\p9 prog w h' s.heap.objs.size (f9 [] ns)/\(∀b o,s.heap.get? b=some o->h'.get? b=some o)/\s.toks<=tk) E) cs.init.plain F.entry_set_init (check_set_init_1 hT ?_)) ?_
 ·have KC:vn (s.heap.push (v9 w)) l items:=hl.imp (·.push _) (·.push _);have Kz:=hl.lt;refine Qc (s:={ s with heap:=s.heap.push (v9 w) }) (by simp[hh]) hS KC hi hb (bt Kz) λh' tk h1 h2 h3=>ai ⟨rfl,h',tk,rfl,h1,λb o e=>h2 b o (aI (av e)) (ah _ e),h3⟩
 ·rintro(e|fl) s2 hr
  ·exact hr
  cases fl with
  |next=>exact hr
  |brk=>exact hr
  |cont=>exact hr
  |ret v =>
  obtain⟨rfl,h',tk,rfl,h1,h2,h3⟩:=hr
  repeat (any_goals (first|assumption|wp_step))
  exact h _ _ h1 h2 h3
end ST
namespace L2
open PySem PySem.Spec PyProof.Rows
def qE(X:Cx)(a:Addr)(ks:List Int):HO:=.ext λh=>ST.p9 X.prog X.w h a ks
def q9(ns:List Int):List Int:=(ST.f9 [] ns).mergeSort (λa b=>decide (a<=b))
theorem N1:∀{a b:List Int},a.Perm b->a.Pairwise (·<=·)->b.Pairwise (·<=·)->a=b
 |[],b,h,_,_=>by rw[List.nil_perm.mp h]
 |x::a,[],h,_,_=>absurd h.length_eq (by simp)
 |x::a,y::b,h,h1,h2=>by
  rw[cO] at h1 h2;have e:x=y:=by
   have m1:=h.mem_iff (a:=y);have m2:=h.mem_iff (a:=x);simp only[List.mem_cons,true_or,true_iff,iff_true] at m1 m2;rcases m1 with z|z
   ·exact z.symm
   ·rcases m2 with z'|z'
    ·exact z'
    ·have:=h1.1 y z;have:=h2.1 x z';omega
  subst e;rw[N1 (h.cons_inv) h1.2 h2.2]
theorem BE(ns:List Int):(q9 ns).Pairwise (·<=·):=by
 have:=qZ (le:=λa b:Int=>decide (a<=b)) (λa b c h1 h2=>by simp at *;omega) (λa b=>by simp;omega) (ST.f9 [] ns);exact this.imp λh=>by simpa using h
theorem N6(ns:List Int):(q9 ns).Perm (ST.f9 [] ns):=CT _ _
theorem Bs(ns:List Int):(q9 ns).length<=ns.length:=by
 rw[(N6 ns).length_eq];have:=ST.L4 ns [];simpa using this
section
variable{X:Cx}{pins:List (Addr×Obj)}{Z:St}{H:Hp}{s:Shared}
theorem Inv.draw(I:Inv X pins Z H s)(d:Drawn):Inv X pins Z H { s with drawn:=d } :=
 I.step (g':=s.gens) (t':=s.toks) (d':=d) (ch:=[]) (by simp) (λb o _ _ _ e _=>e) (λb o _ _ _ e _=>⟨o.slots,e⟩) (λb o _ _ e=>e) (λb o _ e=>⟨o,e⟩) (λ_ _ e=>e) (λ_ _ _ e=>e) (λb ps e=>⟨#[],by simp[e]⟩) (λm hm=>hm) I.bw I.bare
theorem HZ{h:Heap}{a:Addr}{ks:List Int}(x:ST.p9 X.prog X.w h a ks):m4 X.prog X.w H h a (qE X a ks) :=
 ⟨x,by obtain⟨o,_,_,_,e,_⟩:=x;exact⟨o,e⟩,λh1 h2 y k=>y.at k⟩
theorem BG{ns:List Int}{vs:List Value}(h:IntsAre vs ns):Vals (ns.map V.int) vs:=by
 induction h with
 |nil=>exact .nil
 |cons n t r ih=>exact .cons ⟨t,rfl⟩ ih
theorem O6:∀{ns:List Int} {vs:List Value},Vals (ns.map V.int) vs->IntsAre vs ns
 |[],_,h=>by cases h;exact .nil
 |n::ns,_,h=>by
  cases h with
  |cons r rr =>
   obtain⟨t,rfl⟩:=r;exact .cons n t (O6 rr)
theorem GW(hc:X.calm=true):m7 X (.type "set") (λxs H Q=>∃a ns,xs=[.ref a]/\ft X.K H a (ns.map V.int)/\ns.length<60/\∀p,H p=none->Q (.ref p) (upd H p (qE X p (ST.f9 [] ns)))):=by
 intro pins s Z H xs us Q I r h;obtain⟨a,ns,rfl,hq,hl,q⟩:=h;cases r with
 |cons r rr =>
 cases rr;cases r;obtain⟨aO,rv,p,hz⟩:=I.list hq;have hI:=O6 rv;have hlen:=ST.xi hI;refine ST.Ie (ns:=ns) (I.ok.hd hc) (.inl p.isList) (by simpa using hI) (by rw[aA,hlen];exact ak (Nat.succ_lt_succ hl) (by decide)) λh' tk hS hk _=>?_;exact⟨.ref _,_,I.laid (a:=s.heap.objs.size) (t':=tk) hk (aj _) (HZ hS),rfl,q _ (I.bw.fresh (aj _))⟩
theorem Y8(hc:X.calm=true):m7 X (.builtin "sorted") (λxs H Q=>∃a ns,xs=[.ref a]/\H a=some (qE X a (ST.f9 [] ns))/\ns.length<60/\∀p,H p=none->Q (.ref p) (upd H p (.lst ((q9 ns).map V.int)))):=by
 intro pins s Z H xs us Q I r h;obtain⟨a,ns,rfl,ha,hl,q⟩:=h;cases r with
 |cons r rr =>
 cases rr;cases r;have hS:ST.p9 X.prog X.w s.heap a (ST.f9 [] ns):=(I.bw a _ ha).1;have hn:=ST.L4 ns [];simp only[List.length_nil] at hn;refine ST.XZ (I.ok.hd hc) hS (by omega) λS vs jo e h' d' jb h1 h2 h3 h4 h5 h6 _=>?_;have e1:jo=q9 ns:=N1 (h2.trans (N6 ns).symm) h3 (BE ns);subst e1;have hz:=Bs ns;exact⟨.ref S,_,(I.laid (a:=S) (o:=.lst ((q9 ns).map V.int)) (t':=jb) h6 h5 ⟨by rw[ao];exact aJ hz (aJ (cX hl) (by decide)),vs,e,BG h1,h4⟩).draw d',rfl,q S (I.bw.fresh h5)⟩
end
end L2
namespace ST
open PySem PyProof.Rows
theorem Pq{prog:Program}{w:World}{A:Around}{E:Value->Shared->Prop}{s:Shared}{a:Addr}{ks:List Int}{k:Int}{tk:Tok}{Q:Value->Shared->Prop}(hS:p9 prog w s.heap a ks)(hr:ks.length+1<scanBound)(h:∀h',Heap.SameBut a s.heap h'->p9 prog w h' a (E7 ks k)->Q .none { s with heap:=h',toks:=s.toks+1 }):wpAny (model prog w) A (call (.builtin "set.add") [.ref a,.int k tk]) Q E s:=by
 have hT:s.TypeIs (.ref a) "set":=let ⟨o,_,_,_,e,x,_⟩:=hS;⟨o,e,x.1⟩
 refine bL F.slot_set_add hT F.entry_set_add ?_ (F.args_set_add_2 _ _);have go:∀(Q':Fin->Shared->Prop),(∀h',Heap.SameBut a s.heap h'->p9 prog w h' a (E7 ks k)->wpAny (model prog w) A.in1 (ret .none) Q' E { s with heap:=h',toks:=s.toks+1 })->wpAny (model prog w) A.in1 (do let _ <- setAdd a (.int k tk);ret .none) Q' E s:=λQ' q=>by
  unfold setAdd;refine aa (bq (aa ((intKind prog w).pyHash (k:=k) (eE _ _ _ _) ?_)));exact ED (s:={ s with toks:=s.toks+1 }) hS hr λh' b sb S2=>q h' sb S2
 unfold Builtin.«set.add» Builtin.Frozenset.oneOther;simp only[List.isEmpty_nil,bind_assoc];unfold Builtin.Frozenset.addrOf;refine aa (ai ?_)
 try dsimp only
 refine aa (ai ?_)
 try dsimp only
 exact go _ λh' sb S2=>ai ⟨_,rfl,h h' sb S2⟩
end ST
namespace L2
open PySem PySem.Spec PyProof.Rows
variable{elt iter:Expr}{ifs:List Expr}{scope:Scope}{pos:Pos}
section
variable{prog:Program}{w:World}{A:Around}{R:Result->Shared->Prop}{s:Shared}
theorem Yd(elt target iter:Expr)(ifs:List Expr)(scope:Scope)(pos:Pos)(it acc:Value)(env:Env):compTurn (.SetComp elt [⟨target,iter,ifs,0⟩] scope pos) 0 it acc env=(do
      standAt iter.pos
      match <- pyNext it with
      |none=>pure (.done .next)
      |some v =>
        letOwnedTupleGo target it v
        assign target env v
        let mut ok:=true
        for c in ifs do if ok then ok <- isTrue c env (eval c env)
        if ok then(do let x <- eval elt env;standAt elt.pos;let _ <- call (.builtin "set.add") [acc,x])
        again (.compLoop (.SetComp elt [⟨target,iter,ifs,0⟩] scope pos) 0 it acc env)):=by rfl
theorem Wz{target:Expr}{it acc:Value}{env:Env}(I:Nat->Shared->Prop)(turn:∀ n s,I n s->wpAny (model prog w) A (pyNext it) (λr bC=>match r with
   |none=>R (.ok .next) bC
   | some v=>wpAny (model prog w) A (letOwnedTupleGo target it v) (λ_ bC=>wpAny (model prog w) A (assign target env v) (λ_ fb =>
     wpAny (model prog w) A (forIn ifs true λc r=>if r=true then do let ok <- isTrue c env (eval c env);pure (ForInStep.yield ok) else pure (ForInStep.yield r)) (λok dy =>
      if ok=true then wpAny (model prog w) A (eval elt env) (λx gI =>
       wpAny (model prog w) A (call (.builtin "set.add") [acc,x]) (λ_ jL=>∃ m,m < n/\I m jL) (λ_ _=>False) gI) (λ_ _=>False) dy
      else ∃ m,m < n/\I m dy) (λ_ _=>False) fb) (λ_ _=>False) bC) (λ_ _=>False) bC) (λ_ _=>False) s)(n:Nat)(h:I n s) :
  codeAny (model prog w) A (.compLoop (.SetComp elt [⟨target,iter,ifs,0⟩] scope pos) 0 it acc env) R s:=by
 refine codeAny_loop rfl I (λn s hI=>?_) n h;show wpAny _ A ((compTurn (.SetComp elt [⟨target,iter,ifs,0⟩] scope pos) 0 it acc env).onRaise (λx=>do noteFrame x env;theTreesLotGoes x)) _ _ s;refine wpAny_noted ?_;rw[Yd];refine aa (cT (aa (aV (turn n s hI) (λr bC cF=>?_) λ_ _ h'=>h'.elim)));cases r with
 |none=>exact ai cF
 |some v =>
  refine aa (aV cF (λ_ bC cF=>?_) λ_ _ h'=>h'.elim);refine aa (aV cF (λ_ fb gw=>aa (aV gw (λok dy jQ=>?_) λ_ _ h'=>h'.elim)) λ_ _ h'=>h'.elim);cases ok with
  |false=>exact wpAny_pure ⟨rfl,jQ⟩
  |true =>
   exact aa (aa (aV jQ (λx gI mn=>aa (cT (aa (aV mn (λ_ jL ml=>ai (ai ⟨rfl,ml⟩)) λ_ _ h'=>h'.elim)))) λ_ _ h'=>h'.elim))
theorem XU{target:Expr}{it acc:Value}{env:Env}(h0:codeAny (model prog w) A (.compLoop (.SetComp elt [⟨target,iter,ifs,0⟩] scope pos) 0 it acc env) R s)(h:wpAny (model prog w) A (pyIter it) (λDC s'=>codeAny (model prog w) A (.compLoop (.SetComp elt [⟨target,iter,ifs,0⟩] scope pos) 0 DC acc env) R s') (notedBy (model prog w) A env λx s'=>R (.error x) s') s) :
  codeAny (model prog w) A (.compStart (.SetComp elt [⟨target,iter,ifs,0⟩] scope pos) 0 it acc env) R s:=by
 refine sC (?_:wpAny _ _ ((compStart (.SetComp elt [⟨target,iter,ifs,0⟩] scope pos) 0 it acc env).onRaise (λx=>do noteFrame x env;standAt theWindowsPlace)) _ _ s);refine wpAny_notedAt ?_;unfold compStart;refine aa (pA (wpAny_ite ?_));split
 ·first
   |exact ai ⟨rfl,h0⟩
   |exact aa (ai (ai ⟨rfl,h0⟩))
 ·refine aa (fc ?_);exact aa (cT (aa (aV h (λDC s' h'=>ai ⟨rfl,h'⟩) λ_ _ x=>x)))
end
def si(o:Obj):Prop:=∀v,o.data≠.cell v
def MK(X:Cx)(wi:TI)(d6:List Nat)(n:Nat)(g:TG)(tc:TT)(te:TE):TE:=λZ H Q=>wi Z H λJ H1=>∃W:Nat->Nat->List Int->St->Hp->Prop,(∃m,W 0 m [] (u5 Z d6 n) H1)/\∀i m ys Z H,W i m ys Z H ->
 (J.stop i H/\∀p,H p=none->Q (.ref p) (upd H p (qE X p (ST.f9 [] ys)))) \/
 (J.go i H/\ys.length < 60/\∀ x H',J.nA i H x H'->g x Z H' λcq H2=>tc cq H2 λb H3 =>
  if b=true then te cq H3 λy H4=>∃ k,y=.int k/\∃ m',m' < m/\W (i + 1) m' (ys ++ [k]) cq H4 else ∃ m',m' < m/\W (i + 1) m' ys cq H3)
section
variable{X:Cx}{pins:List (Addr×Obj)}{Z:St}{H:Hp}{s:Shared}
theorem Inv.Hl{D:Addr}{φ:Heap->Prop}(I:Inv X pins Z H s)(f:w5 X pins H D)(hs:X.df.heap.objs.size<=D)(ho:m4 X.prog X.w (upd H D (.ext φ)) s.heap D (.ext φ)):Inv X pins Z (upd H D (.ext φ)) s:=by
 obtain⟨f0,f1,f2,f3,f4,f5⟩:=f;have fk:∀b o,X.df.heap.get? b=some o->b≠D:=λb o e z=>absurd (av e) (by rw[z];exact jG.mpr hs);have tup:∀b u,H b=some u->upd H D (.ext φ) b=some u:=λb u e=>by rw[d0 (i0 e f0)];exact e
 refine⟨I.ok,I.os,I.bare,⟨?_,?_,?_,I.base.there,?_,?_,?_⟩,I.loc,I.cell,?_,?_,?_,?_,I.len⟩
 ·exact λb o e n1 n2 n3=>I.base.keep b o e n1 n2 n3
 ·exact λb o e n1 n2 n3=>I.base.slot b o e n1 n2 n3
 ·exact λb o e n1 n2=>by rw[d0 (fk b o e)];exact I.base.free b o e n1 n2
 ·exact λb xs e=>tup _ _ (I.base.ij b xs e)
 ·exact λb o u e=>tup _ _ (I.base.hJ b o u e)
 ·exact λb ps e=>by
   obtain⟨more,q⟩:=I.base.ik b ps e;exact⟨more,tup _ _ q⟩
 ·rw[d0 f1.symm];exact I.free
 ·exact λx c e=>by rw[d0 (f4 x c e)];exact I.et x c e
 ·intro p hp;obtain⟨p1,p2,p3⟩:=I.pin p hp;exact⟨p1,by rw[d0 (f5 p hp)];exact p2,p3⟩
 ·intro a o e;by_cases ha:a=D
  ·subst ha;rw[j6] at e;cases e;exact ho
  ·rw[d0 ha] at e;have q:=I.bw a o e;refine q.U6 (λb u _ h=>h) (λb hb=>tup _ _ hb) (λb xs hb=>tup _ _ hb)
theorem YI{tg:Expr}{N':List Str}{d6:List Nat}{cl:List (Str×Addr)}{it:Addr}{fp:List Addr}{tn:Nat->Heap->Prop}{J:It}{g:TG}{tc:TT}{te:TE}{RR:Value->Addr->Result->Shared->Prop}{E:Value->Shared->Prop}{W:Nat->Nat->List Int->St->Hp->Prop}{m0:Nat}{Q:VK}(S:cI X scope N' d6 cl)(hc:X.calm=true)(hg:∀C s H,PG (b9 X pins scope N' cl C s H fp) tg g)(ht:∀C s H,jD (b9 X pins scope N' cl C s H fp) ifs tc)(he:∀C s H,PE (b9 X pins scope N' cl C s H fp) elt te)(I:Inv X pins Z H s)(T:Turn X.prog X.w X.K tg J fp it tn)(st:tn 0 s.heap)(hf:∀b∈fp,w5 X pins H b)(w0:W 0 m0 [] (u5 Z d6 N'.length) H)(turn:∀ i m ys Z H,W i m ys Z H->(J.stop i H/\∀ p,H p=none->Q (.ref p) (upd H p (qE X p (ST.f9 [] ys)))) \/
   (J.go i H/\ys.length < 60/\∀ x H',J.nA i H x H'->g x Z H' λcq H2=>tc cq H2 λb H3 =>
    if b=true then te cq H3 λy H4=>∃ k,y=.int k/\∃ m',m' < m/\W (i + 1) m' (ys ++ [k]) cq H4 else ∃ m',m' < m/\W (i + 1) m' ys cq H3))(ue:∀D C s' H' m,Inv X pins Z H' s'->Q (.ref D) H'->s'.heap.Ns C m->H' C=none->s.heap.objs.size<=C->RR (.ref D) C (.ok .next) s') :
  wpAny (model X.prog X.w) X.A (newSet (.type "set")) (λacc dy=>wpAny (model X.prog X.w) X.A (newFunctionEnv scope X.env.globals cl [] X.env.qual none .none (some X.env)) (λjx gI =>
   codeAny (model X.prog X.w) X.A (.compStart (.SetComp elt [⟨tg,iter,ifs,0⟩] scope pos) 0 (.ref it) acc { jx with scope:=relabel scope X.env }) (RR acc jx.locals) gI) E dy) E s:=by
 refine ST.HK (S6 λcF eV dG jR=>?_);dsimp only at eV dG jR ⊢;generalize kL:s.heap.push (ST.v9 X.w)=H2 at eV dG jR ⊢;generalize eD:s.heap.objs.size=D at *;have hC:H2.objs.size=D+1:=by rw[<- kL,dc,eD]
 generalize eC:H2.objs.size=C at *;have oR:D≠C:=by omega
 have lt:∀b o,s.heap.get? b=some o->b<D:=λb o e=>by rw[<- eD];exact av e
 have lY:D<=C:=by omega
 have mP:∀b o,s.heap.get? b=some o->b≠C:=λb o e=>aI (ak (lt b o e) lY);have jP:∀b o,s.heap.get? b=some o->b≠D:=λb o e=>aI (lt b o e);have old:∀b o,s.heap.get? b=some o->cF.get? b=some o:=λb o e=>dG b o (kL▸ah _ e);have ir:cF.get? D=some (ST.v9 X.w):=dG _ _ (by rw[<- kL,<- eD];exact aw _ rfl);have gx:∀b∈fp,∃o,s.heap.get? b=some o:=λb hb=>by
  obtain⟨o,e,_⟩:=T.obj _ _ st b hb;exact⟨o,e⟩
 have oQ:D∉fp:=λhm=>by
  obtain⟨o,e⟩:=gx D hm;exact jP D o e rfl
 have X1:Inv (b9 X pins scope N' cl C s H fp) [] (u5 Z d6 N'.length) H { s with heap:=cF } :=
  I.Bu S hc hf gx (by rw[eD];omega) ⟨_,eV⟩ old jR
 have oE:tn 0 cF:=T.keep _ _ _ st λb _ o e=>old b o e;have uw:∀{H':Hp},(∀b∈fp,H' b=none)->∀b∈fp,w5 (b9 X pins scope N' cl C s H fp) [] H' b:=λhn b hb=>by
  obtain⟨f0,f1,f2,f3,f4,f5⟩:=hf b hb;obtain⟨o,e⟩:=gx b hb;refine⟨hn b hb,?_,?_,.inl hb,λx c q=>(Q4 jR q).elim (λl z=>absurd (cu (z▸l) (ak (lt b o e) lY)) (aX _)) λq=>f4 x c (S.cin x c q),λp hp=>?_⟩
  ·exact mP b o e
  ·exact λz=>by
    rcases ay.mp (I.J9 b z) with z|z
    ·exact f1 z
    ·exact f2 z
  ·have fI:p∈X.pn++pins:=by simpa[b9] using hp
   exact f5 p fI
 have fD:∀{H':Hp},H' D=none->w5 (b9 X pins scope N' cl C s H fp) [] H' D:=λhn=>by
  refine⟨hn,oR,λz=>?_,.inr (by show s.heap.objs.size<=D;omega),λx c q=>?_,λp hp=>?_⟩
  ·exact absurd (I.qD (a:=D) (by omega)) λko=>by
    rcases ay.mp (I.J9 D z) with z|z
    ·exact absurd I.lt (by rw[<- z,eD];exact aX _)
    ·exact ko z
  ·rcases Q4 jR q with l|q
   ·exact λz=>absurd (ak (z▸l) lY) (aX _)
   ·obtain⟨v,o,e,_⟩:=I.cell x c (S.cin x c q);exact jP c o e
  ·have fI:p∈X.pn++pins:=by simpa[b9] using hp
   exact jP _ _ (I.pin p fI).1
 have lT:∀{H':Hp} {s':Shared} {bI:St} {oD:Obj},si oD->Inv (b9 X pins scope N' cl C s H fp) [] bI H' s'->H' D=none->s'.heap.get? D=some oD ->
   Inv (b9 X pins scope N' cl C s H fp) [(D,oD)] bI H' s':=λ{H' s' bI oD} iq J0 hn e=>J0.E5 λp hp=>by
  have z:p=(D,oD):=by simpa using hp
  subst z;obtain⟨f0,f1,f2,_⟩:=fD hn;exact⟨e,f0,f1,f2,iq⟩
 have iX:∀{H':Hp} {oD:Obj},(∀b∈fp,H' b=none)->∀b∈fp,w5 (b9 X pins scope N' cl C s H fp) [(D,oD)] H' b:=λ{H' oD} hn b hb=>by
  obtain⟨f0,f1,f2,f3,f4,f5⟩:=uw hn b hb;refine⟨f0,f1,f2,f3,f4,λp hp=>?_⟩;have fI:p∈(b9 X pins scope N' cl C s H fp).pn\/p=(D,oD):=by simpa using hp
  rcases fI with z|z
  ·exact f5 p (cY _ z)
  ·subst z;exact λz=>oQ (by rw[show D=b from z];exact hb)
 have loop:∀dy:Shared,dy={ s with heap:=cF } ->
   codeAny (model X.prog X.w) X.A (.compLoop (.SetComp elt [⟨tg,iter,ifs,0⟩] scope pos) 0 (.ref it) (.ref D) (compEnvC scope (L8 scope cl C) C X.env)) (RR (.ref D) C) dy:=by
  rintro dy rfl;refine Wz (λn s'=>∃ (i:Nat) (ys:List Int) (bI:St) (H':Hp) (oD:Obj),Inv (b9 X pins scope N' cl C s H fp) [] bI H' s'/\tn i s'.heap/\(∀ b ∈ fp,H' b=none)/\H' D=none/\ys.length <= 60/\si oD /\
   s'.heap.get? D=some oD/\ST.p9 X.prog X.w s'.heap D (ST.f9 [] ys)/\W i n ys bI H') ?_ m0 ⟨0,[],_,H,ST.v9 X.w,X1,oE,λb hb=>(hf b hb).1,I.bw.fresh (by omega),bX _,(λv (z:Data.set _ _ _=_)=>by cases z),ir,ST.FV ir,w0⟩
  rintro n s3 ⟨i,ys,gY,H3,oD,I3,lR,mH,d3,z3,c3,o3,S3,w3⟩;have pv:=lT c3 I3 d3 o3;rcases turn i n ys gY H3 w3 with⟨stop,q⟩|⟨go,hz,step⟩
  ·refine bZ (T.done (b9 X pins scope N' cl C s H fp) rfl rfl rfl rfl i _ s3 _ H3 _ pv (iX mH) lR stop) λr s4 ⟨hr,I4⟩=>?_;subst hr;have o4:=(I4.pin (D,oD) (by simp)).1;have J4:Inv X pins Z H3 s4:=I.AV hf I4;have ux:w5 X pins H3 D:=by
    refine⟨d3,bt (by rw[<- eD];exact I.lt),I.qD (by omega),.inr (by have:=I.sz;omega),λx c q=>?_,λp hp=>?_⟩
    ·obtain⟨v,o,e,_⟩:=I.cell x c q;exact jP c o e
    ·exact jP _ _ (I.pin p hp).1
   obtain⟨mC,tN,_⟩:=I4.loc;exact ue D C s4 (upd H3 D (qE X D (ST.f9 [] ys))) mC (J4.Hl ux (by have:=I.sz;omega) (HZ (S3.at λo e=>by rw[o3] at e;cases e;exact o4))) (q D d3) tN (by rw[d0 oR.symm];exact I4.free) (by omega)
  ·refine bZ (T.item (b9 X pins scope N' cl C s H fp) rfl rfl rfl rfl i _ s3 _ H3 _ pv (iX mH) lR go) λr s4 ⟨u,hr,h4⟩=>?_;subst hr;refine bZ h4 λ_ s5 aT=>?_;obtain⟨x,H5,I5,r5,y5,kj,qi⟩:=aT;have o5:=I5.pin (D,oD) (by simp);have qT:=I5.pinned (iX qi) (T.obj _ _ kj);refine bZ (hg C s H _ s5 _ H5 x u _ qT r5 (step x H5 y5)) λ_ s6 aT=>?_;obtain⟨ja,H6,I6,q6⟩:=aT;refine bZ (ht C s H _ s6 ja H6 _ I6 q6) λok s7 ⟨H7,I7,q7⟩=>?_;have back:∀{ow:St} {H8:Hp} {s8:Shared},Inv (b9 X pins scope N' cl C s H fp) ([(D,oD)]++V1 fp s5.heap) ow H8 s8->(∀b∈fp,H8 b=none)/\tn (i+1) s8.heap/\H8 D=none/\s8.heap.get? D=some oD :=
    λ{ow H8 s8} I8=>by
     have pf:∀b∈fp,∀o,s5.heap.get? b=some o->s8.heap.get? b=some o/\H8 b=none:=λb hb o e=>by
      have:=I8.pin (b,o) (aU _ (aU _ (N8 hb e)));exact⟨this.1,this.2.1⟩
     have pd:=I8.pin (D,oD) (by simp);refine⟨λb hb=>?_,T.keep _ _ _ kj λb hb o e=>(pf b hb o e).1,pd.2.1,pd.1⟩;obtain⟨o,e,_⟩:=T.obj _ _ kj b hb;exact(pf b hb o e).2
   cases ok with
   |false =>
    obtain⟨m',hm,w7⟩:=q7;obtain⟨b1,b2,b3,b4⟩:=back I7;exact⟨m',hm,i+1,ys,ja,H7,oD,I7.E5 λp hp=>absurd hp (by simp),b2,b1,b3,z3,c3,b4,S3.at λo e=>by rw[o3] at e;cases e;exact b4,w7⟩
   |true =>
    refine bZ (he C s H _ s7 ja H7 _ I7 q7) λxv s8 aT=>?_;obtain⟨y,H8,I8,r8,kk,ey,m',hm,w8⟩:=aT;subst ey;obtain⟨tk,rfl⟩:=r8;obtain⟨b1,b2,b3,b4⟩:=back I8;have S8:ST.p9 X.prog X.w s8.heap D (ST.f9 [] ys):=S3.at λo e=>by rw[o3] at e;cases e;exact b4
    have yA:=ST.L4 ys [];simp only[List.length_nil] at yA;refine ST.Pq S8 (ak (by omega:_<62) (by decide)) λh' sb S9=>?_;have e9:ST.E7 (ST.f9 [] ys) kk=ST.f9 [] (ys++[kk]):=by unfold ST.f9;rw[List.foldl_append];rfl
    rw[e9] at S9;obtain⟨o9,LH,LJ,t9,g9,x9,d9,r9⟩:=id S9;have c9:si o9:=λv z=>by rw[d9] at z;cases z
    have vG:Inv (b9 X pins scope N' cl C s H fp) [] ja H8 s8:=I8.E5 λp hp=>absurd hp (by simp);obtain⟨f0,f1,f2,f3,f4,f5⟩:=fD (H':=H8) b3;have kp:∀b o,b≠D->s8.heap.get? b=some o->h'.get? b=some o:=λb' u hb hu=>by rw[sb.2 b' hb];exact hu
    refine⟨m',hm,i+1,ys++[kk],ja,H8,o9,vG.turned (it:=D) (t':=s8.toks+1) kp f0 f1 f3 f4 f5,T.keep _ _ _ b2 λb hb o e=>kp b o (λz=>oQ (by rw[<- z];exact hb)) e,b1,b3,?_,c9,g9,S9,w8⟩;rw[bz,iG];omega
 exact XU (loop _ rfl) (T.self _ 0 _ _ _ oE (loop _ rfl))
theorem QA{tg:Expr}{N':List Str}{d6:List Nat}{cl:List (Str×Addr)}{wi:TI}{g:TG}{tc:TT}{te:TE}(S:cI X scope N' d6 cl)(hc:X.calm=true)(hi:PI X tg iter wi)(hg:∀pins C s H fp,PG (b9 X pins scope N' cl C s H fp) tg g)(ht:∀pins C s H fp,jD (b9 X pins scope N' cl C s H fp) ifs tc)(he:∀pins C s H fp,PE (b9 X pins scope N' cl C s H fp) elt te)(hs:∀x,foldedSetIterable iter X.env x=pure x):PE X (.SetComp elt [⟨tg,iter,ifs,0⟩] scope pos) (MK X wi d6 N'.length g tc te):=by
 intro pins s Z H Q I h;rw[arm_eval_SetComp];refine eX (use:=none) rfl hs S.nT S.kind S.names (bZ (hi pins s Z H _ I h) λxv bC cF=>bZ cF λrj fb gw=>?_);obtain⟨it,fp,tn,J,H2,e,I2,T,jk,f2,W,⟨m0,w0⟩,turn⟩:=gw;subst e;refine YI (RR:=λacc C=>compPost (model X.prog X.w) X.A X.xe none (EP X pins Z Q) acc C) S hc (λC s H=>hg pins C s H fp) (λC s H=>ht pins C s H fp) (λC s H=>he pins C s H fp) I2 T jk f2 w0 turn ?_;intro D C s' H' m I' q hn hC hsz;exact⟨m,hn,λh' sb=>⟨.ref D,H',I'.BO hsz I2 hC sb,rfl,q⟩⟩
end
end L2
namespace HT
open PySem PyProof.Rows Builtin
theorem WQ:fillsNumberSlot (.type "tuple") "mul"=pure false :=
 PySem.fillsNumberSlot_seq (id:="tuple.__mul__") (r:=some (.builtin "tuple.__rmul__")) pB.lookup (by decide +kernel) F.slot_tuple_rmul.lookup (by decide +kernel)
theorem Zg:seqRepeat? (.type "tuple")=pure (some (.builtin "tuple.__mul__")):=by
 unfold seqRepeat?;rw[PySem.seqSlot_of (T:="tuple") (name:="__mul__") (id:="tuple.__mul__") pB.lookup (by decide +kernel),PySem.seqSlot_of (T:="tuple") (name:="__rmul__") (id:="tuple.__rmul__") F.slot_tuple_rmul.lookup (by decide +kernel)]
 rfl
theorem WH(a:Int)(t:Tok)(l:Addr)(items:Array Value)(n:Nat)(dd:Option Addr)(sl:Array (Option Value)) :
  Meets (Builtin.«int.__rmul__» ⟨[.int a t,.ref l],[]⟩) (λ_ R s=>s.heap.get? l=some { cls:=.type "tuple",dict:=dd,data:=.seq items n,slots:=sl }/\R (.ok (.ret Value.notImplemented)) s) :=
 .of_wp λprog w A R s h=>by obtain⟨hp,g,d,tk,os⟩:=s;obtain⟨hl,h⟩:=h;wp_walk;exact⟨_,rfl,h⟩
theorem WL(t:Value)(c:Value):Builtin.«tuple.__mul__» ⟨[t,c],[]⟩=(do
 let n <- asIndex c
 if n < -(2 ^ 63)||n>=2 ^ 63 then
  rule "tuple.repeat.overflow";raiseError "OverflowError" s!"cannot fit '{<- typeNameOf c}' into an index-sized integer"
 let xs <- Builtin.Tuple.tupleItemsOf t
 if xs.isEmpty||n==1 then
  if <- Builtin.Tuple.tupleIsExact t then rule "tuple.repeat.same-object";return <- ret t
 if n<=0||xs.isEmpty then return <- ret (<- Builtin.Tuple.tupleExact #[])
 if xs.size*n>(2 ^ 63-1) / 8 then rule "tuple.repeat.no-memory";raiseNew (<- newExc (.type "MemoryError") [])
 if Builtin.Tuple.tupleTooMany (xs.size*n) then unsupported "tuple.__mul__:memory"
 ret (<- Builtin.Tuple.tupleExact ((List.replicate n.toNat xs).foldl (· ++ ·) #[]))):=rfl
section
variable{prog:Program}{w:World}{A:Around}{E:Value->Shared->Prop}{s:Shared}
theorem Xv(aO:List Value):∀(m:Nat) (acc:Array Value),List.foldl (λx1 x2=>x1++x2) acc (List.replicate m aO.toArray)=acc++(List.replicate m aO).flatten.toArray:=by
 intro m
 induction m with
 |zero=>intro acc;simp
 |succ m ih=>intro acc;rw[bU,List.foldl_cons,ih,bU,cZ];simp
theorem Xj{a:Addr}{aO:List Value}{n:Int}{t:Tok}{Q:Value->Shared->Prop}(ht:IsTup s.heap a aO.toArray)(fk:aO≠[])(h1:1<=n)(h2:n<2 ^ 62)(hz:aO.length*n.toNat<=sizeLine)(q1:n=1->Q (.ref a) s)(q2:Q (.ref s.heap.objs.size) { s with heap:=s.heap.push { cls:=.type "tuple",data:=.seq (List.replicate n.toNat aO).flatten.toArray } }):wpAny (model prog w) A (binaryOp .Mult (.ref a) (.int n t)) Q E s:=by
 obtain⟨o,ho,hc,k,hd⟩:=id ht;obtain⟨cls,dict,data,slots⟩:=o;dsimp only at hc hd;subst hc hd;have he:aO.toArray.isEmpty=false:=by cases aO<;>first|exact absurd rfl fk|rfl
 refine CP (T:="tuple") (U:="int") (by decide) ht.typeIs (λs'=>lM s' n t) WQ F.fills_int_mul jC Zg F.slot_int_index.lookup
  (cW jC (lM s n t) F.entry_int_rmul (F.args_int_rmul_2 _ _) (WH n t a aO.toArray k dict slots) ⟨ho,rfl,ht.typeIs,?_⟩)
 refine bL pB ht.typeIs F.entry_tuple_mul ?_ (F.args_tuple_mul_2 _ _);rw[WL];refine aa (eB (show asIndex (.int n t)=pure n from rfl) ?_);dsimp only;rw[az (by simp only[Bool.or_eq_true,decide_eq_true_eq];omega)];refine aa (tupleItemsOf_ ht ?_);have big:¬((aO.toArray.size:Int)*n>(2 ^ 63-1) / 8):=by
  rw[aA];have:((aO.length*n.toNat:Nat):Int)=(aO.length:Int)*n:=by rw[Int.natCast_mul];rw[show((n.toNat:Nat):Int)=n by omega]
  rw[<- this];have hs:sizeLine<2 ^ 59:=by decide
  omega
 have many:¬(Builtin.Tuple.tupleTooMany ((aO.toArray.size:Int)*n)=true):=by
  unfold Builtin.Tuple.tupleTooMany;rw[aA,cc];have:((aO.length*n.toNat:Nat):Int)=(aO.length:Int)*n:=by rw[Int.natCast_mul];rw[show((n.toNat:Nat):Int)=n by omega]
  rw[<- this];omega
 have hsz:sizeOk (.seq (List.replicate n.toNat aO).flatten.toArray):=by
  show(List.replicate n.toNat aO).flatten.toArray.size<=sizeLine;simp only[List.size_toArray,List.length_flatten,List.map_replicate,List.sum_replicate_nat];rw[sD];exact hz
 by_cases e1:n=1
 ·subst e1;rw[aG (by rw[he];rfl)];unfold Builtin.Tuple.tupleIsExact;refine aa (aa (dn ht.typeIs (ai ?_)));rw[aG (by decide)]
  first
   |exact aa (fc (aa (ai ⟨_,rfl,ai (q1 rfl)⟩)))
   |exact aa (fc (ai ⟨_,rfl,(q1 rfl)⟩))
   |exact aa (fc (ai ⟨_,rfl,ai (q1 rfl)⟩))
 ·rw[az (by rw[he];simpa using e1)];rw[az (by rw[he];simp;omega),az big,az many];rw[show List.foldl (λx1 x2=>x1++x2) #[] (List.replicate n.toNat aO.toArray)=(List.replicate n.toNat aO).flatten.toArray by rw[Xv];simp]
  first
   |exact aa (m:=Builtin.Tuple.tupleExact _) (bD (ai ⟨_,rfl,q2⟩) hsz)
   |exact aa (m:=Builtin.Tuple.tupleExact _) (bD (ai ⟨_,rfl,ai q2⟩) hsz)
end
end HT
namespace L2
open PySem PySem.Spec PyProof.Rows
section
variable{X:Cx}
def Ua(K:PySem.W.Frag):R2:=λx y H Q=>∃(a:Addr) (n:Int) (xs:List V),x=.ref a/\y=.int n/\gS K H a xs/\xs≠[]/\1<=n/\n<2 ^ 62/\xs.length*n.toNat<=sizeLine /\
 (n=1->Q (.ref a) H)/\(∀p,H p=none->Q (.ref p) (upd H p (.tup (List.replicate n.toNat xs).flatten)))
theorem NV:fu X (binaryOp .Mult) (Ua X.K):=by
 intro pins s Z H x y v u Q I rx ry h;obtain⟨a,n,xs,rfl,rfl,ha,fk,h1,h2,hz,q1,q2⟩:=h;cases rx;obtain⟨tk,rfl⟩:=ry;obtain⟨aO,r,p,_⟩:=I.tuple ha;refine HT.Xj p (λz=>fk (r.U2.mp z)) h1 h2 (by rw[<- r.length];exact hz) (λe=>⟨.ref a,H,I,rfl,q1 e⟩) ?_;refine⟨.ref s.heap.objs.size,_,I.laid (t':=s.toks) (o:=.tup (List.replicate n.toNat xs).flatten) (λb ob q=>ah _ q) (aj _) ?_,rfl,q2 _ (I.bw.fresh (aj _))⟩;exact⟨by rw[len_rep,sD];exact hz,_,r.rep _,M5.new _ _⟩
def NA(sep:Str)(ys:List Str):Nat:=ys.foldl (λn y=>n+y.length+sep.length) 0
end
end L2
namespace HT
open PySem PyProof.Rows Builtin PySem.SeqAt
theorem WB(l:Addr)(items:Array Value)(n:Nat)(dd:Option Addr)(sl:Array (Option Value))(x:Value)(e:Value->Bool)(j:Nat)(hj:j<items.size)(hit:e items[j]=true)(ko:∀m (hm:m<items.size),m<j->e items[m]=false) :
    Meets (Builtin.«tuple.index» ⟨[.ref l,x],[]⟩)
      (λA R s=>s.heap.get? l=some { cls:=.type "tuple",dict:=dd,data:=.seq items n,slots:=sl }/\(∀y,y∈items->EqAt A.in1 s y x (e y))/\R (.ok (.ret (.int j s.toks))) { s with toks:=s.toks+1 }) :=
  .of_wp λprog w A R s h=>by
    obtain⟨hp,g,d,tk,os⟩:=s;obtain⟨hl,he,h⟩:=h
    wp_walk using wpAny_loadPart' hl
    show wpAny (model prog w) A.in1 (forIn ([:Min.min items.size items.size]:Std.Legacy.Range) ((none,()):Option PySem.Fin × Unit) (λ(i:Nat) __s =>
            match items[i]? with
            |some y=>do
              let __do_lift <- eqBool y x
              if __do_lift=true then do
                  let __do_lift <- retInt (i:Nat)
                  pure (ForInStep.done (some __do_lift,()))
                else pure (ForInStep.yield (none,()))
            | x=>pure (ForInStep.yield (none,())))) _ _ _
    rw[Std.Legacy.Range.forIn_eq_forIn_range'];simp only[Std.Legacy.Range.size,Nat.sub_zero,Nat.add_sub_cancel,Nat.div_one,Nat.min_self];refine wpAny_forIn_list _ (λrest b s'=>b=(none,())/\s'=⟨hp,g,d,tk,os⟩/\∃i,rest=List.range' i (items.size-i)/\i<=j) _ ?_ ?_ _ _ ⟨rfl,rfl,0,by simp,bX _⟩
    · rintro y rest b s' ⟨rfl,rfl,i,hr,hi⟩;have dC:i<items.size:=by omega
      rw[show items.size-i=(items.size-(i+1))+1 by omega,List.range'_succ] at hr;cases hr;rw[show items[y]?=some items[y] from gp dC];refine aa (he _ (Array.getElem_mem dC) prog w _ _ ?_);by_cases iN:y=j
      · subst iN;rw[hit]
        wp_walk
        exact⟨_,rfl,h⟩
      · rw[ko y dC (by omega)]
        wp_walk
        exact⟨rfl,rfl,y+1,rfl,by omega⟩
    · rintro b s' ⟨rfl,rfl,i,hr,hi⟩;exfalso;have:=dE List.length hr;simp at this;omega
section
variable{prog:Program}{w:World}{A:Around}{E:Value->Shared->Prop}{s:Shared}
theorem a14:typeLookup (.type "tuple") (dunderI "add")=pure none:=by
 show typeLookup (.type "tuple") "__iadd__"=pure none;rw[gk,dW];kernel_rfl
theorem Qa{t b:Addr}{vs ws:List Value}{Q:Value->Shared->Prop}(ht:IsTup s.heap t vs.toArray)(hb:IsTup s.heap b ws.toArray)(h0:vs=[]->Q (.ref b) s)(h1:ws=[]->Q (.ref t) s)(h2:Q (.ref s.heap.objs.size) { s with heap:=s.heap.push { cls:=.type "tuple",data:=.seq (vs++ws).toArray } })(hsz:vs.length+ws.length<=sizeLine):wpAny (model prog w) A (inplaceOp .Add (.ref t) (.ref b)) Q E s:=by
 obtain⟨⟨cls,dd,data,sl⟩,ho,hc,n,hd⟩:=id ht;obtain⟨⟨uG,oY,data2,kF⟩,kn,mB,n2,hd2⟩:=id hb;simp only at hc hd mB hd2;subst hc hd mB hd2;have e:vs.toArray++ws.toArray=(vs++ws).toArray:=by simp
 refine wpAny_inplaceOp_concat (T:="tuple") ⟨_,ho,rfl⟩ ⟨_,kn,rfl⟩ a14 iR lD ?_;by_cases hv:vs=[]
 ·subst hv;exact cW pC ⟨_,ho,rfl⟩ ny (lO _ _) (tuple_addW0 t b #[] ws.toArray n n2 dd oY sl kF rfl) ⟨ho,kn,h0 rfl⟩
 by_cases hw:ws=[]
 ·exact cW pC ⟨_,ho,rfl⟩ ny (lO _ _) (tuple_addW1 t b vs.toArray ws.toArray n n2 dd oY sl kF (by simpa using hv) (by simp[hw])) ⟨ho,kn,h1 hw⟩
 ·refine cW pC ⟨_,ho,rfl⟩ ny (lO _ _) (tuple_addW2 t b vs.toArray ws.toArray n n2 dd oY sl kF (by simpa using hv) (by simpa using hw) (by rw[aA,aA];exact hsz)) ⟨ho,kn,?_⟩;rw[e];exact h2
end
end HT
namespace L2
open PySem PySem.Spec PyProof.Rows
variable{xs:List V}
section
variable{X:Cx}
def wM(ys:List V)(y:V)(n:Nat):Prop:=ys.all J7=true/\J7 y=true/\(∃z,ys[n]?=some z/\lA z y=true)/\∀(m:Nat) z,m<n->ys[m]?=some z->lA z y=false
theorem AR:∀{xs:List V} {us:List Value} {i:Nat} (hi:i<us.length),Vals xs us->∃x,xs[i]?=some x/\RelV x us[i]
 |_,_,0,hi,.cons r _=>⟨_,rfl,r⟩
 |_,_,i+1,hi,.cons _ t=>by
  obtain⟨x,h1,h2⟩:=AR (i:=i) (by simpa using hi) t;exact⟨x,by simpa using h1,by simpa using h2⟩
theorem IJ(h:xs.all J7=true){i:Nat}{x:V}(e:xs[i]?=some x):J7 x=true:=cg.mp h x (bg e)
theorem FT{ys:List V}{y:V}{n:Nat}{aO:List Value}(F:wM ys y n)(r:Vals ys aO):∃hn:n<aO.toArray.size,lB y aO.toArray[n]=true/\∀m (hm:m<aO.toArray.size),m<n->lB y aO.toArray[m]=false:=by
 obtain⟨fs,fy,⟨z,hz,he⟩,ko⟩:=F;have hl:=r.length;have hn:n<aO.length:=by
  have:=(aD.mp hz).1;omega
 refine⟨by simpa using hn,?_,λm hm Ky=>?_⟩
 ·obtain⟨x,hx,rx⟩:=AR hn r;rw[hz] at hx;cases hx;rw[xX,wG rx (IJ fs hz)];exact he
 ·have lg:m<aO.length:=by simpa using hm
  obtain⟨x,hx,rx⟩:=AR lg r;rw[xX,wG rx (IJ fs hx)];exact ko m x Ky hx
def HU(K:PySem.W.Frag):V->List V->Hp->VK->Prop:=λx xs H Q=>∃a ys y n,x=.ref a/\xs=[y]/\gS K H a ys/\wM ys y n/\Q (.int n) H
def HS(K:PySem.W.Frag):V->List V->Hp->VK->Prop:=λx xs H Q=>∃a ys y n,x=.ref a/\xs=[y]/\ft K H a ys/\wM ys y n/\n<2 ^ 62/\Q (.int n) H
theorem a15:kB X "tuple.index" (HU X.K):=by
 intro pins s Z H x xs v us Q I rx r h;obtain⟨a,ys,y,n,rfl,rfl,hq,W,q⟩:=h;cases rx;cases r with
 |cons ry rr =>
 cases rr;obtain⟨aO,rv,p,hz⟩:=I.tuple hq;obtain⟨hn,hit,ko⟩:=FT W rv;obtain⟨⟨cls,dd,data,sl⟩,ho,hc,k,hd⟩:=id p;simp only at hc hd;subst hc hd;refine cW F.slot_tuple_index p.typeIs F.entry_tuple_index (F.args_tuple_index_2 _ _) (HT.WB a aO.toArray k dd sl _ (lB y) n hn hit ko) ⟨ho,λw hw=>V4 ry W.2.1 rv W.1 w (by simpa using hw),⟨.int n,H,I.tok _,⟨_,rfl⟩,q⟩⟩
theorem a16:kB X "list.index" (HS X.K):=by
 intro pins s Z H x xs v us Q I rx r h;obtain⟨a,ys,y,n,rfl,rfl,hq,W,nL,q⟩:=h;cases rx;cases r with
 |cons ry rr =>
 cases rr;obtain⟨aO,rv,p,hz⟩:=I.list hq;obtain⟨hn,hit,ko⟩:=FT W rv;have pt:=p.isList.typeIs;obtain⟨⟨cls,dd,data,sl⟩,k,ho,hc,DW,hd⟩:=id p;simp only at hc DW hd;subst hc DW hd;refine cW F.slot_list_index pt F.entry_list_index (F.args_list_index_2 _ _) (SeqAt.list_indexAt a aO.toArray k none sl _ (lB y) n hn (by omega) hit ko) ⟨ho,λw hw=>V4 ry W.2.1 rv W.1 w (by simpa using hw),⟨.int n,H,I.tok _,⟨_,rfl⟩,q⟩⟩
def vo(K:PySem.W.Frag)(H:Hp)(a:Addr)(xs:List V):Prop :=
 H a=some (.tup xs)\/∃(o:Obj) (aO:Array Value) (n:Nat),K.lookup a=some o/\o.cls=.type "tuple"/\o.dict=none/\o.data=.seq aO n/\aO.size<=sizeLine/\Vals xs aO.toList
theorem vo.sq{K:PySem.W.Frag}{H:Hp}{a:Addr}(h:vo K H a xs):gS K H a xs:=by
 rcases h with h|⟨o,aO,n,h1,h2,_,h3,h4,h5⟩
 ·exact .inl (.inl h)
 ·exact .inr ⟨o,aO,n,h1,h2,h3,h4,h5⟩
theorem Inv.Si{pins:List (Addr×Obj)}{Z:St}{H:Hp}{s:Shared}{a:Addr}(I:Inv X pins Z H s)(h:vo X.K H a xs):s.TypeIs (.ref a) "tuple"/\∀b,Value.ref a=.ref b->∃ob,s.heap.get? b=some ob/\ob.dict=none:=by
 rcases h with h|⟨o,aO,n,h1,h2,h3,_⟩
 ·obtain⟨_,aO,_,o,e,c,_,d⟩:=(show m4 X.prog X.w H s.heap a (.tup xs) from I.bw a _ h)
  exact⟨⟨o,e,c⟩,λb q=>by cases q;exact⟨o,e,d⟩⟩
 ·exact⟨⟨o,I.fU a o h1,h2⟩,λb q=>by cases q;exact⟨o,I.fU a o h1,h3⟩⟩
def MH(K:PySem.W.Frag)(to:TE)(t:TA):TE:=λZ H Q=>to Z H λx H1=>(∃a xs,x=.ref a/\ft K H1 a xs/\t Z H1 λys H2=>HS K x ys H2 Q)\/(∃a xs,x=.ref a/\vo K H1 a xs/\t Z H1 λys H2=>HU K x ys H2 Q)
theorem Qx{o e:Expr}{es:List Expr}{to:TE}{t:TA}{apos dS:Pos}(ho:PE X o to)(ha:PA X (e::es) t)(fq:attributeBase o "index" X.env (eval o X.env)=eval o X.env)(kq:((backTo dS (starEach (e :: es) X.env)).all (λx=>!x.1) && (backToKw dS (keywordEach [] X.env)).all (λx=>x.1.isSome)
   && decide ((e :: es).length + ([]:List Keyword).length + (if ([]:List Keyword).isEmpty then 0 else 1) < 30))=true)(fo:(apos.endLine==dS.line)=true)(hs:starEach (e::es) X.env=(false,eval e X.env)::starEach es X.env)(eG:(backTo dS (starEach es X.env)).any (·.1)=false) :
  PE X (.Call (.Attribute o "index" apos) (e::es) [] dS) (MH X.K to t):=by
 intro pins s Z H Q I h;refine wpAny_Call_method_late fq kq fo rfl (bZ (ho pins s Z H _ I h) λv s1 aT=>?_);obtain⟨x,H1,I1,r1,q1⟩:=aT;rcases q1 with⟨a,xs,rfl,hq,q1⟩|⟨a,xs,rfl,hq,q1⟩
 ·cases r1;obtain⟨aO,rv,pl,hz⟩:=I1.list hq;have pt:=pl.isList.typeIs;obtain⟨ob,k,e1,_,e2,_⟩:=id pl;refine⟨"list","list.index",F.plainAttrs_list,F.slot_list_index,F.type_list_index,pt,λb q=>by cases q;exact⟨ob,e1,e2⟩,?_⟩;have hA:=ha dS pins s1 Z H1 _ I1 q1;rw[hs] at hA ⊢;refine fC (by show(false||(backTo dS (starEach es X.env)).any (·.1))=false;rw[eG]<;>rfl) (gh ?_);exact bZ hA λus s2 ⟨vs,H2,I2,r2,q2⟩=>a16 pins s2 Z H2 (.ref a) vs (.ref a) us Q I2 rfl r2 q2
 ·cases r1;obtain⟨pt,hd⟩:=I1.Si hq;refine⟨"tuple","tuple.index",F.plainAttrs_tuple,F.slot_tuple_index,F.type_tuple_index,pt,hd,?_⟩;have hA:=ha dS pins s1 Z H1 _ I1 q1;rw[hs] at hA ⊢;refine fC (by show(false||(backTo dS (starEach es X.env)).any (·.1))=false;rw[eG]<;>rfl) (gh ?_);exact bZ hA λus s2 ⟨vs,H2,I2,r2,q2⟩=>a15 pins s2 Z H2 (.ref a) vs (.ref a) us Q I2 rfl r2 q2
def TZ(K:PySem.W.Frag):V->V->Hp->VK->Prop:=λx y H Q=>(∃i j,x=.int i/\y=.int j/\Q (.int (i+j)) H) \/
 ∃a b xs ys,x=.ref a/\y=.ref b/\gS K H a xs/\gS K H b ys/\xs.length+ys.length<=sizeLine/\(xs=[]->Q (.ref b) H)/\(ys=[]->Q (.ref a) H)/\(∀p,H p=none->Q (.ref p) (upd H p (.tup (xs++ys))))
theorem HD:Ap X .Add (TZ X.K):=by
 rintro pins s Z H x y u v Q I rx ry h;rcases h with h|⟨a,b,xs,ys,rfl,rfl,ha,hb,hz,q0,q1,q2⟩
 ·exact UU pins s Z H x y u v Q I rx ry h
 ·cases rx;cases ry;obtain⟨aO,r1,p1,_⟩:=I.tuple ha;obtain⟨mj,r2,p2,_⟩:=I.tuple hb;refine HT.Qa p1 p2 (λz=>⟨.ref b,H,I,rfl,q0 (r1.U2.mp z)⟩) (λz=>⟨.ref a,H,I,rfl,q1 (r2.U2.mp z)⟩) ?_ (by rw[<- r1.length,<- r2.length];exact hz);refine⟨.ref s.heap.objs.size,_,I.laid (t':=s.toks) (o:=.tup (xs++ys)) (λb ob q=>ah _ q) (aj _) ?_,rfl,q2 _ (I.bw.fresh (aj _))⟩;exact⟨by rw[bz];exact hz,_,r1.append r2,M5.new _ _⟩
end
end L2
namespace ST
open PySem PyProof.Rows
def Spot(k:Int):Prop:=0<=k/\k<8
structure Own(mask:Nat)(owner:Array (Option Nat))(pre:List Int):Prop where
 sz:owner.size=mask+1
 fwd:∀(i:Nat) (k:Int),pre[i]?=some k->owner[k.toNat]?=some (some i)
 bwd:∀(j i:Nat),owner[j]?=some (some i)->pre[i]?=some (j:Int)
section
variable{prog:Program}{w:World}{a:Addr}
def Wg(prog:Program)(w:World)(h:Heap)(a:Addr)(ks:List Int):Prop :=
 ∃o es ep t,h.get? a=some o/\o.ExactSet/\o.data=.set es ep t/\ElemsOf (intKind prog w) es.toList/\(es.toList.map λe=>toI e.2).Perm ks/\ks.Nodup/\es.size<scanBound/\t.fits es.size=true/\Well (Led w) t/\(ks=[]->7<=t.mask)
theorem p9.toV{h:Heap}{ks:List Int}(x:p9 prog w h a ks)(hn:ks≠[]):Wg prog w h a ks:=by
 obtain⟨o,es,ep,t,h1,h2,h3,h4,h5,h6,h7,h8,h9⟩:=x;exact⟨o,es,ep,t,h1,h2,h3,h4,h5,h6,h7,h8,h9,λz=>absurd z hn⟩
theorem p9.same{h:Heap}{ks us:List Int}(x:p9 prog w h a ks)(hp:ks.Perm us):p9 prog w h a us:=by
 obtain⟨o,es,ep,t,h1,h2,h3,h4,h5,h6,h7⟩:=x;exact⟨o,es,ep,t,h1,h2,h3,h4,h5.trans hp,hp.nodup_iff.mp h6,h7⟩
theorem above:∀n,n<300->7<SetTable.sizeAbove n/\n<SetTable.sizeAbove n/\SetTable.sizeAbove n<=sizeLine:=by decide +kernel
end
end ST
namespace L2
open PySem PySem.Spec PyProof.Rows
variable{X:Cx}
end L2
namespace ST
open PySem PyProof.Rows
theorem Zo:typeLookup (.type "dict") "__len__"=pure (some (.builtin "dict.__len__")):=by rw[gk,dW];kernel_rfl
section
variable{prog:Program}{w:World}{A:Around}{E:Value->Shared->Prop}{s:Shared}{a:Addr}{ep:Nat}{K:Type}[DecidableEq K]{knd:PySem.KeyKind prog w K}{kvs:List (K×Value)}
theorem YV(hh:A.handled=none)(hd:(a==sysModules)=false)(hm:s.heap.DictAt knd a kvs ep)(hz:kvs.length<=10000){Q:List Value->Shared->Prop}(h:∀(vs:List Value) h' jb,vs.length=kvs.length->(∀(i:Nat) v,vs[i]?=some v->∃k x,kvs[i]?=some (k,x)/\knd.is k v=true)->(∀c o,s.heap.get? c=some o->h'.get? c=some o)->s.heap.objs.size<=h'.objs.size->s.toks<=jb->Q vs { s with heap:=h',toks:=jb }) :
  wpAny (model prog w) A (collect (.ref a)) Q E s:=by
 have dC:a<s.heap.objs.size:=hm.lt_size;unfold collect;refine aa (xT (dg F.entry_proto_collect ?_));rw[cJ F.plain_proto_collect _];show wpAny _ A.in1 (newList [] >>= λl=>again (.builtin "list.__iadd__" ⟨[l,.ref a],[]⟩)) _ _ s;refine aa (bD ?_);refine ai ⟨fV iz _,dg F.entry_list_iadd ?_⟩;rw[cJ iz _];have mV:=hm.push { cls:=.type "list",data:=.seq ([]:List Value).toArray };have zi:(s.heap.push { cls:=.type "list",data:=.seq ([]:List Value).toArray }).get? s.heap.objs.size=some { cls:=.type "list",data:=.seq ([]:List Value).toArray }:=aw _ rfl;have fk:s.heap.objs.size≠a:=bt dC;have h1:Builtin.List.listSameRef (.ref s.heap.objs.size) (.ref a)=false:=by simp[Builtin.List.listSameRef,fk]
 show wpAny _ A.in1 (Builtin.List.listExtendWith (.ref s.heap.objs.size) (.ref a) (.ref s.heap.objs.size)) _ _ _;unfold Builtin.List.listExtendWith;refine aa (dn (s:={ s with heap:=_ }) mV.dictOf.typeIs ?_);rw[az (by rw[h1];decide)];refine aa (wpAny_pyIter_dict (s:={ s with heap:=_ }) hd mV ?_);have kH:s.heap.objs.size<(s.heap.push { cls:=.type "list",data:=.seq ([]:List Value).toArray }).objs.size:=by rw[gP];exact dX _
 have Li:((s.heap.push { cls:=.type "list",data:=.seq ([]:List Value).toArray }).push { cls:=.type "dict_keyiterator",data:=.fields #[.ref a,.int 0 0,.int kvs.length 0,.int ep 0] }).IsKeyIter (s.heap.push { cls:=.type "list",data:=.seq ([]:List Value).toArray }).objs.size a 0 kvs.length ep:=⟨_,aw _ rfl,rfl,rfl⟩
 have nP:=mV.push { cls:=.type "dict_keyiterator",data:=.fields #[.ref a,.int 0 0,.int kvs.length 0,.int ep 0] };have he:∀c o,(s.heap.push { cls:=.type "list",data:=.seq ([]:List Value).toArray }).get? c=some o->((s.heap.push { cls:=.type "list",data:=.seq ([]:List Value).toArray }).push { cls:=.type "dict_keyiterator",data:=.fields #[.ref a,.int 0 0,.int kvs.length 0,.int ep 0] }).get? c=some o:=λc o e=>ah _ e;have oP:=he _ _ zi;generalize ((s.heap.push { cls:=.type "list",data:=.seq ([]:List Value).toArray }).push { cls:=.type "dict_keyiterator",data:=.fields #[.ref a,.int 0 0,.int kvs.length 0,.int ep 0] })=h2 at *;generalize hI':(s.heap.push { cls:=.type "list",data:=.seq ([]:List Value).toArray }).objs.size=I at *;refine aa (bq ?_);unfold Builtin.List.listLengthHint;refine aa (wpAny_specialOf (s:={ s with heap:=h2 }) nP.dictOf.typeIs Zo ?_);generalize tV:("dict.__len__":String)=yC;dsimp only;rw[show splitId yC=some ("dict","__len__") from by subst tV;decide +kernel];dsimp only;refine aa (fS (s:={ s with heap:=h2 }) (b:=true) nP.dictOf.typeIs (by rw[fA];kernel_rfl) ?_);rw[az (by decide)];subst tV;rw[aG (by decide +kernel)];refine aa (dn (s:={ s with heap:=h2 }) nP.dictOf.typeIs ?_);refine ai ?_;rw[aG (by decide +kernel)];refine aa (fc ?_);refine aa ?_;show wpAny _ A.in1 (updateSeq s.heap.objs.size (·.push .none) >>= λ_=>updateSeq s.heap.objs.size (·.pop)) _ _ _;refine aa (jz (s:={ s with heap:=h2 }) oP rfl ?_);have ud:=aW (Obj.mapSeq (·.push Value.none)) oP rfl;refine jz (s:={ s with heap:=_ }) ud rfl ?_;have zh:=aW (Obj.mapSeq (·.pop)) ud rfl;have sS:∀c o,c≠s.heap.objs.size->h2.get? c=some o->((h2.update s.heap.objs.size (Obj.mapSeq (·.push Value.none))).update s.heap.objs.size (Obj.mapSeq (·.pop))).get? c=some o :=
  λc o hc e=>(bY _ _ (aZ hc)).trans ((bY _ _ (aZ hc)).trans e)
 have Lf:I≠s.heap.objs.size:=bt kH;have Ld:a≠I:=aI (cu dC kH);have W:=(Walks.dictKeys (prog:=prog) (w:=w) (A:=A.in1) (knd:=knd) hh I a Ld kvs ep).toS;have st:h2.IsKeyIter I a 0 kvs.length ep/\h2.DictAt knd a kvs ep:=⟨Li,nP⟩
 have jk:=W.frame 0 ({ s with heap:=h2 }:Shared) _ s.toks st (aj _) λc hc o e=>sS c o (λz=>by simp at hc;rcases hc with y|y<;>simp_all) e;refine ai ⟨fV F.plain_extend_loop _,codeAny_extend_loopS W (aJ hz (by decide)) _ (λz=>by simp at z;rcases z with y|y<;>simp_all) _ kvs.length 0 _ _ _ rfl (bX _) jk zh (ItemsOf.nil _) λs' qP c' hm kK ir=>?_⟩;show wpAny _ A (load s.heap.objs.size >>= _) _ _ s';refine aa (wpAny_load kK ?_);refine ai ?_;have eS:s'={ s with heap:=s'.heap,toks:=s'.toks }:=by
  obtain⟨fI,g',d',jb,pN⟩:=s';have m1:g'=s.gens:=hm.gens;have m2:d'=s.drawn:=hm.drawn;have m3:pN=s.os:=hm.os;subst m1;subst m2;subst m3
  rfl
 rw[eS];refine h _ _ s'.toks (by simpa using ir.1) (λi v hv=>ir.2 i v (by simpa using hv)) (λc o e=>?_) (cX (av kK)) hm.toks;have hc:c<s.heap.objs.size:=av e;have n1:c≠s.heap.objs.size:=aI hc;have n2:c≠I:=aI (cu hc kH);exact hm.heap c o (by simp[n1,n2]) (sS c o n1 (he c o (ah _ e)))
theorem NC{i:Int}{v:Value}(h:(L2.i8 prog w).is (.inl i) v=true):∃t,v=.int i t:=by
 rw[L2.GB] at h;rcases L2.n9 h with⟨j,t,e1,e2⟩|⟨x,t,e1,_⟩
 ·cases e1;exact⟨t,e2⟩
 ·cases e1
theorem YK{kvs:List (L2.Key×Value)}{ns:List Int}(hh:A.handled=none)(hd:(a==sysModules)=false)(hm:s.heap.DictAt (L2.i8 prog w) a kvs ep)(hk:kvs.map (·.1)=ns.map Sum.inl)(zr:ns.length<64){Q:Value->Shared->Prop}(h:∀(S:Addr) (vs:List Value) (jo:List Int) e h' jb,IntsAre vs jo->jo.Perm ns->jo.Pairwise (·<=·)->h'.get? S=some (seqObj "list" vs.toArray e)->s.heap.objs.size<=S->(∀c o,s.heap.get? c=some o->h'.get? c=some o)->s.toks<=jb->Q (.ref S) { s with heap:=h',toks:=jb }) :
  wpAny (model prog w) A (call (.builtin "sorted") [.ref a]) Q E s:=by
 have hl:kvs.length=ns.length:=by simpa using dE List.length hk
 refine ig kind_sorted plain_sorted entry_sorted (args_sorted1 _) ?_;unfold Builtin.«sorted»;refine aa (m:=checkCount "sorted" 1 1 _) (ai ?_);refine aa (YV (A:=A.in1) hh hd hm (by omega) λvs h1 pG DI hv he kH rn=>?_);have hI:IntsAre vs ns:=by
  have all:∀(i:Nat) v,vs[i]?=some v->∃n tk,ns[i]?=some n/\v=.int n tk:=λi v e=>by
   obtain⟨k,x,h1,h2⟩:=hv i v e;have h3:(kvs.map (·.1))[i]?=some k:=by rw[aB,h1];rfl
   rw[hk,aB,ae] at h3;obtain⟨n,h4,rfl⟩:=h3;obtain⟨tk,e⟩:=NC h2;exact⟨n,tk,h4,e⟩
  have yV:vs.length=ns.length:=DI.trans hl;clear hv DI hl hk h
  induction vs generalizing ns with
  |nil =>
   cases ns with
   |nil=>exact .nil
   |cons=>simp at yV
  |cons v r ih =>
   cases ns with
   |nil=>simp at yV
   |cons n ns =>
    obtain⟨n',tk,e1,e2⟩:=all 0 v rfl;cases e1;rw[e2];exact .cons n tk (ih (by simp at zr;omega) (λi v e=>all (i+1) v e) (by simpa using yV))
 have rB:vs.length<64:=by omega
 refine aa (Ji (s:={ s with heap:=h1,toks:=pG }) ?_);have lb:(h1.push (seqObj "list" vs.toArray 0)).get? h1.objs.size=some (seqObj "list" vs.toArray 0):=aw _ rfl;refine aa (bq (bL (s:={ s with heap:=h1.push (seqObj "list" vs.toArray 0),toks:=pG }) slot_list_sort ⟨_,lb,rfl⟩ entry_list_sort (list_sort_tree lb hI rB λout jo a1 a2 a3=>⟨_,rfl,?_⟩) (args_list_sort _)));obtain⟨e,pY⟩:=sortedHeap_at (vs:=vs) (out:=out) lb;refine ai ⟨_,rfl,h h1.objs.size out.toList jo e _ pG a1 a2 a3 pY kH (λc o' e'=>?_) rn⟩;have hc:=av (he c o' e');rw[sortedHeap_old (aI hc) (by rw[gP];exact kd hc)];exact ah _ (he c o' e')
end
end ST
namespace L2
open PySem PySem.Spec PyProof.Rows
variable{X:Cx}
theorem X5:∀{ns ks:List Int},(ks++ns).Nodup->ST.f9 ks ns=ks++ns
 |[],ks,_=>by simp[ST.f9]
 |n::r,ks,h=>by
  have hn:n∉ks:=λz=>by
   have:=(gB.mp h).2.2 n z n (by simp);exact this rfl
  have e:ST.E7 ks n=ks++[n]:=by
   unfold ST.E7;rw[az (by simpa using hn)]
  show ST.f9 (ST.E7 ks n) r=_;rw[e,X5 (by rw[eZ];exact h),eZ]
  rfl
theorem WO(hc:X.calm=true):m7 X (.builtin "sorted") (λxs H Q=>∃a kvs ns,xs=[.ref a]/\H a=some (.dK kvs)/\kvs.map (·.1)=ns.map Sum.inl/\ns.length<60/\∀p,H p=none->Q (.ref p) (upd H p (.lst ((q9 ns).map V.int)))):=by
 intro pins s Z H xs us Q I r h;obtain⟨a,kvs,ns,rfl,ha,hk,hl,q⟩:=h;cases r with
 |cons r rr =>
 cases rr;cases r;obtain⟨_,hd,vs,kv,hD⟩:=rY I.bw ha;obtain⟨ep,hA⟩:=hD.dictAt;have DQ:vs.map (·.1)=ns.map Sum.inl:=kv.keys.symm.trans hk;have Kv:ns.Nodup:=by
  obtain⟨_,_,_,_,_,_,_,_,nd⟩:=id hD;rw[DQ] at nd;exact(cH.mp nd).imp λh e=>h (dE _ e)
 refine ST.YK (I.ok.hd hc) hd hA DQ (by omega) λS us jo e h' jb h1 h2 h3 h4 h5 h6 _=>?_;have e1:jo=q9 ns:=N1 (h2.trans ((N6 ns).trans (by rw[X5 (ks:=[]) Kv];exact .refl _)).symm) h3 (BE ns);subst e1;have hz:=Bs ns;exact⟨.ref S,_,(I.laid (a:=S) (o:=.lst ((q9 ns).map V.int)) (t':=jb) h6 h5 ⟨by rw[ao];exact aJ hz (aJ (cX hl) (by decide)),us,e,BG h1,h4⟩),rfl,q S (I.bw.fresh h5)⟩
theorem Ys{aO:List Value}{ns:List Int}(hi:IntsAre aO ns):∃xs,aO.toArray=intItems xs/\ns=xs.toList.map (·.1):=by
 obtain⟨xs,e⟩:=hi.allInts.items;exact⟨xs,e,by rw[<- hi.numsOf,<- nums_intItems,<- e]⟩
theorem a48(hc:X.calm=true):m7 X (.builtin "sum") (λxs H Q=>∃a,∃ns:List Int,xs=[.ref a]/\ft X.K H a (ns.map V.int)/\Q (.int ns.sum) H):=by
 intro pins s Z H xs us Q I r h;obtain⟨a,ns,rfl,ha,q⟩:=h;obtain⟨u,rfl,ru⟩:=vals1 r;cases ru;obtain⟨aO,rv,p,hz⟩:=I.list ha;obtain⟨xs,e,en⟩:=Ys (O6 rv);refine sum_intListG (xs:=xs) (I.ok.hd hc) (by rw[<- e];exact p.isList) λh' tk t' k=>⟨.int ns.sum,H,I.kept k,⟨t',?_⟩,q⟩
 rw[preSum_eq,List.take_of_length_le (by simp),en]
theorem a50(hc:X.calm=true):m7 X (.builtin "all") (λxs H Q=>∃(a:Addr) (ns:List Int),xs=[.ref a]/\ft X.K H a (ns.map V.int)/\Q (.bl (ns.all λn=>n != 0)) H):=by
 intro pins s Z H xs us Q I r h;obtain⟨a,ns,rfl,ha,q⟩:=h;obtain⟨u,rfl,ru⟩:=vals1 r;cases ru;obtain⟨aO,rv,p,hz⟩:=I.list ha;refine call_all_walk ?_;refine iu p.isList ?_;have fk:a≠s.heap.objs.size:=by
  obtain⟨o,e,_⟩:=id p.isList;exact aI (av e)
 have hl:=rv.length;rw[ao] at hl;refine⟨s.heap.objs.size,_,_,_,_,_,λi=>ns.getD i 1 != 0,rfl,Walks.list (A:=X.A.in1) (I.ok.hd hc) _ a fk aO.toArray,⟨⟨_,aw _ rfl,rfl,rfl⟩,?_⟩,?_,λh' tk k=>?_⟩
 ·obtain⟨o,e,q1⟩:=id p.isList;exact⟨o,ah _ e,q1⟩
 ·intro i v s' Q' E' hP hQ;have hv:aO[i]?=some v:=by simpa using hP
  have hi:i<ns.length:=by rw[hl];exact(aD.mp hv).1
  obtain⟨u',tF,yk⟩:=rv.get (i:=i) (x:=V.int ns[i]) (by rw[aB,aC hi];rfl);rw[hv] at tF;cases tF;obtain⟨t,rfl⟩:=yk;refine truthy_int ?_;have:ns.getD i 1=ns[i]:=by simp[List.getD,hi]
  dsimp only at hQ;rw[this] at hQ;exact hQ
 ·have e1:(List.range aO.toArray.size).all (λi=>ns.getD i 1 != 0)=ns.all λn=>n != 0:=by
   rw[aA,<- hl];rw[bG];simp only[List.all_eq_true,List.mem_range];constructor
   ·intro hh x hx;obtain⟨i,hi,rfl⟩:=dQ.mp hx;have:=hh i hi;simpa[List.getD,hi] using this
   ·intro hh i hi;have:=hh ns[i] (dY hi);simpa[List.getD,hi] using this
  rw[e1];exact ⟨.bl _,H,I.kept (t':=tk) λb o e=>k b o (by
   intro hb;have:b=s.heap.objs.size:=by simpa using hb
   exact absurd (av e) (by rw [this];exact aX _)) (ah _ e),rfl,q⟩
theorem Zj:m7 X (.builtin "len") (λxs H Q=>∃a,∃ks:List Int,xs=[.ref a]/\H a=some (qE X a ks)/\Q (.int ks.length) H):=by
 intro pins s Z H xs us Q I r h;obtain⟨a,ks,rfl,ha,q⟩:=h;obtain⟨u,rfl,ru⟩:=vals1 r;cases ru;have hS:ST.p9 X.prog X.w s.heap a ks:=(I.bw a _ ha).1;obtain⟨o,es,ep,t,e,ex,ed,_,hp,nd,hz,hf,_⟩:=hS;have hl:es.size=ks.length:=by have:=hp.length_eq;simpa using this
 refine call_len_set e ex ed hf (by have:scanBound<2 ^ 62:=(by decide);omega) ⟨.int ks.length,H,I.tok _,⟨_,by rw[hl]⟩,q⟩
theorem Of{i:Int}{j:Nat}{p pos:Pos}(mz:PySem.W.kdsCode X.K X.env.code=true):PE X (.Set [.Constant (.int i) j p] 0 pos) (λZ H Q=>∀q,H q=none->Q (.ref q) (upd H q (.set (λk=>decide (k=i)) 1))):=by
 intro pins s Z H Q I h;rw[arm_eval_Set];refine aa (cT ?_);refine aa (PySem.W.kds_main I.fU mz λb=>?_);rw[PySem.W.kds_star _ (by rfl),bj];refine PySem.W.kds_core (ts:=(evalEach [Expr.Constant (.int i) j p] X.env).map λt=>do let v <- t;standAt pos;pure v) (by rfl) (by rfl) (by show 1<=30;decide) (by rw[bj];rfl) λled=>?_;refine PySem.W.kds_all pos _ _ _ ?_;show wpAny _ _ (eval (.Constant (.int i) j p) X.env) _ _ _;refine wpAny_Constant_int ?_;refine PySem.W.kds_fill_cons ?_;have Lg:(s.heap.push { cls:=.type "set",dict:=none,data:=.set #[] 0 (.fresh 0 0 led) }).SetOf (intKind X.prog X.w) s.heap.objs.size (λ_=>false) 0:=(setObjOf_fresh led).setOf (aw _ rfl) (by decide);unfold setAdd;refine bq (aa ((intKind X.prog X.w).pyHash (k:=i) (eE _ _ _ _) ?_));refine wpAny_setAddHashed_of (knd:=intKind X.prog X.w) (eE _ _ _ _) rfl Lg (by decide) λh' yO kK=>?_;refine PySem.W.kds_fill_nil (by rfl) ?_;have kp:∀b u,s.heap.get? b=some u->h'.get? b=some u:=λb u e=>(yO.2 b (aI (av e))).trans (ah _ e);exact⟨.ref s.heap.objs.size,_,I.laid (a:=s.heap.objs.size) (o:=.set (λk=>decide (k=i)) 1) kp (aj _) (by show Heap.SetOf _ _ _ _ _;simpa using kK),rfl,h _ (I.bw.fresh (aj _))⟩
theorem a10:fu X (compareOp .In) (λx y H Q=>∃i a S n,x=.int i/\y=.ref a/\H a=some (.set S n)/\Q (.bl (S i)) H):=by
 intro pins s Z H x y v u Q I rx ry h;obtain⟨i,a,S,n,rfl,rfl,ha,q⟩:=h;obtain⟨t,rfl⟩:=rx;cases ry;exact wpAny_inSet_of (knd:=intKind X.prog X.w) (k:=i) (eE _ _ _ _) rfl (I.bw a _ ha) ⟨.bl (S i),H,I.tok _,rfl,q⟩
theorem Ze:fu X (compareOp .NotIn) (λx y H Q=>∃i a S n,x=.int i/\y=.ref a/\H a=some (.set S n)/\Q (.bl (!S i)) H):=by
 intro pins s Z H x y v u Q I rx ry h;obtain⟨i,a,S,n,rfl,rfl,ha,q⟩:=h;obtain⟨t,rfl⟩:=rx;cases ry;exact wpAny_notInSet_of (knd:=intKind X.prog X.w) (k:=i) (eE _ _ _ _) rfl (I.bw a _ ha) ⟨.bl (!S i),H,I.tok _,rfl,q⟩
theorem XN:kB X "set.add" (λx xs H Q=>∃a i S n,x=.ref a/\xs=[.int i]/\H a=some (.set S n)/\n+1<4096/\Q .bf (upd H a (.set (λk=>S k||decide (k=i)) (if S i then n else n+1)))):=by
 intro pins s Z H x vs v us Q I rx rv h;obtain⟨a,i,S,n,rfl,rfl,ha,hn,q⟩:=h;cases rx;obtain⟨u,rfl,t,rfl⟩:=rv.one;refine call_set_add (knd:=intKind X.prog X.w) (k:=i) (eE _ _ _ _) rfl (I.bw a _ ha) (show n+1<scanBound from hn) λh' yO kK=>?_;obtain⟨o,es,ep,tb,ho,_⟩:=id kK;exact⟨.bf,_,I.write (x:=a) (e:=a) (o:=.set (λk=>S k||decide (k=i)) (if S i then n else n+1)) (by rw[ha];trivial) (.inl rfl) (λb u hb e=>(yO.2 b hb).trans e) ⟨o,ho⟩ kK,rfl,q⟩
def CJ(K:PySem.W.Frag)(a:Addr)(n:Nat):It :=
 ⟨λi H=>∃xs x,ft K H a xs/\xs.length=n/\i<n/\xs[n-1-i]?=some x,λi H x H'=>H'=H/\∀xs,ft K H a xs->xs[n-1-i]?=some x,λi H=>n<=i⟩
theorem ZV{P:Program}{w:World}{K:PySem.W.Frag}{tg:Expr}(a it:Addr)(n:Nat):Turn P w K tg (CJ K a n) [it] it (λi h=>i<=n/\h.IsRevIter it a ((n:Int)-1-(i:Nat))) where
 mem:=by simp
 obj:=λi h st b hb=>by
  have e:b=it:=by simpa using hb
  subst e;obtain⟨o,e,c,d⟩:=st.2;exact⟨o,e,λv z=>by rw[d] at z;cases z⟩
 keep:=λi h h' st k=>⟨st.1,st.2.at λo e=>k it (by simp) o e⟩
 item:=by
  intro X hP hw hK hc i pins s Z H E I hf st hg;subst hP hw hK;obtain⟨xs,x,hq,hn,hi,hx⟩:=hg;obtain⟨aO,rv,p,hz⟩:=I.list hq;obtain⟨u,hu,ru⟩:=rv.get hx;obtain⟨f0,f1,f2,f3,f4,f5⟩:=hf it (by simp);have jk:=st.2;rw[show(n:Int)-1-(i:Nat)=((n-1-i:Nat):Int) by omega] at jk;refine wpAny_pyNext_rev_item jk p.isList (x:=u) (by simpa using hu) λh' kX sb=>?_;have I1:Inv X pins Z H { s with heap:=h' }:=I.turned (t':=s.toks) (λb o hb e=>(sb.2 b hb).trans e) f0 f1 f3 f4 f5;obtain⟨o,e,c,d⟩:=id kX;refine⟨u,rfl,xI (s:={ s with heap:=h' }) e c d (by decide) ⟨x,H,I1,ru,⟨rfl,λys hy=>by rw[I.AY hy hq];exact hx⟩,⟨by omega,?_⟩,λb hb=>(hf b hb).1⟩⟩;rw[show(n:Int)-1-((i+1:Nat):Int)=((n-1-i:Nat):Int)-1 by omega];exact kX
 done:=by
  intro X hP hw hK hc i pins s Z H E I hf st hg;subst hP hw hK;obtain⟨f0,f1,f2,f3,f4,f5⟩:=hf it (by simp);have jk:=st.2;have:n<=i:=hg;rw[show(n:Int)-1-(i:Nat)=-1 by have:=st.1;omega] at jk;exact wpAny_pyNext_rev_end (I.ok.hd hc) jk λh' eb=>⟨rfl,I.turned (t':=s.toks) (λb o hb e=>eb b o hb e) f0 f1 f3 f4 f5⟩
 self:=λ_ _ _ _ _ st h=>wpAny_pyIter_revIter st.2 h
theorem boot_reversed:bootBuiltins "reversed"=some (.type "reversed"):=by decide +kernel
theorem VP{tg l:Expr}{ta:TA}{p pos:Pos}(hg:Gl X "reversed")(hm:X.mg "reversed"=none)(ha:PA X [l] ta)(hs:starEach [l] X.env=[(false,eval l X.env)]) :
  PI X tg (.Call (.Name "reversed" p) [l] [] pos) (λZ H R=>ta Z H λvs H1=>∃a xs,vs=[.ref a]/\ft X.K H1 a xs/\R (CJ X.K a xs.length) H1):=by
 intro pins s Z H R I h;refine Call_ (O5 I hg hm boot_reversed (bK (bZ (ha pos pins s Z H _ I h) λus s1 aT=>?_) hs rfl));obtain⟨vs,H1,I1,r1,q1⟩:=aT;obtain⟨a,xs,e,hq,q⟩:=q1;subst e;cases r1 with
 |cons r rr =>
  cases rr;cases r;obtain⟨aO,rv,p,hz⟩:=I1.list hq;refine call_reversed_list p.isList ?_;have hl:=rv.length;have hit:(s1.heap.push (revObj a ((aO.toArray.size:Int)-1))).IsRevIter s1.heap.objs.size a ((xs.length:Int)-1-((0:Nat):Int)):=⟨_,aw _ rfl,rfl,by simp[revObj,hl]⟩
  refine wpAny_pyIter_revIter hit ?_;refine⟨s1.heap.objs.size,[s1.heap.objs.size],_,_,H1,rfl,I1.kept (t':=s1.toks) λb o e=>ah _ e,ZV a _ xs.length,⟨bX _,hit⟩,λb hb=>?_,q⟩;have e:b=s1.heap.objs.size:=by simpa using hb
  subst e;exact I1.nY (aj _) (I1.bw.fresh (aj _))
end L2
namespace ST
open PySem PyProof.Rows
section
variable{prog:Program}{w:World}{A:Around}{E:Value->Shared->Prop}{s:Shared}{a:Addr}
theorem XY{T:String}{o:Obj}{items:Array Value}{n:Nat}{ns:List Int}(hT:T="list"\/T="tuple")(ho:s.heap.get? a=some o)(hc:o.cls=.type T)(hd:o.data=.seq items n)(hI:IntsAre items.toList ns)(zr:ns.length<60){Q:Value->Shared->Prop}(h:∀(h1:Heap) (vs:List Value) (jo:List Int) e h',(∀b o',s.heap.get? b=some o'->h1.get? b=some o')->IntsAre vs jo->jo.Perm ns->jo.Pairwise (·<=·)->h'.get? h1.objs.size=some (seqObj "list" vs.toArray e)->(∀c o,h1.get? c=some o->h'.get? c=some o)->Q (.ref h1.objs.size) { s with heap:=h' }) :
  wpAny (model prog w) A (call (.builtin "sorted") [.ref a]) Q E s:=by
 have hl:items.toList.length=ns.length:=xi hI;refine ig kind_sorted plain_sorted entry_sorted (args_sorted1 _) ?_;unfold Builtin.«sorted»;refine aa (m:=checkCount "sorted" 1 1 _) (ai ?_);refine aa (wpAny_collect_seq (A:=A.in1) a hT ho hc hd (λh1 kp=>?_) (by simp at hl;unfold sizeLine;omega));have rB:items.toList.length<64:=by omega
 generalize items.toList=vs at *;refine aa (Ji (s:={ s with heap:=h1 }) ?_);have lb:(h1.push (seqObj "list" vs.toArray 0)).get? h1.objs.size=some (seqObj "list" vs.toArray 0):=aw _ rfl;refine aa (bq (bL (s:={ s with heap:=h1.push (seqObj "list" vs.toArray 0) }) slot_list_sort ⟨_,lb,rfl⟩ entry_list_sort (list_sort_tree lb hI rB λout jo a1 a2 a3=>⟨_,rfl,?_⟩) (args_list_sort _)));obtain⟨e,pY⟩:=sortedHeap_at (vs:=vs) (out:=out) lb;refine ai ⟨_,rfl,h h1 out.toList jo e _ kp a1 a2 a3 pY (λc o' e'=>?_)⟩;have hc:=av e';rw[sortedHeap_old (aI hc) (by rw[gP];exact kd hc)];exact ah _ e'
end
end ST
namespace L2
open PySem PyProof.Rows
def N7(ns:List Int):List Int:=ns.mergeSort (λa b=>decide (a<=b))
theorem GH(ns:List Int):(N7 ns).Pairwise (·<=·):=by
 have:=qZ (le:=λa b:Int=>decide (a<=b)) (λa b c h1 h2=>by simp at *;omega) (λa b=>by simp;omega) ns;exact this.imp λh=>by simpa using h
theorem BD(ns:List Int):(N7 ns).Perm ns:=CT _ _
section
variable{X:Cx}
theorem WE:m7 X (.builtin "sorted") (λxs H Q=>∃p,∃ns:List Int,xs=[.ref p]/\(ft X.K H p (ns.map V.int)\/gS X.K H p (ns.map V.int))/\ns.length<60/\∀l,H l=none->Q (.ref l) (upd H l (.lst ((N7 ns).map V.int)))):=by
 intro pins s Z H xs us Q I r h;obtain⟨p,ns,rfl,hq,hl,q⟩:=h;obtain⟨u,rfl,rx⟩:=vals1 r;cases rx;obtain⟨T,aO,o,n,hT,r',ho,hc,hd⟩:∃T,∃(aO:List Value) (o:Obj) (n:Nat),(T="list"\/T="tuple")/\Vals (ns.map V.int) aO/\s.heap.get? p=some o/\o.cls=.type T/\o.data=.seq aO.toArray n:=by
  rcases hq with hq|hq
  ·obtain⟨aO,r',pl,_⟩:=I.list hq;obtain⟨o,ho,hc,n,hd⟩:=pl.isList;exact⟨_,aO,o,n,.inl rfl,r',ho,hc,hd⟩
  ·obtain⟨aO,r',⟨o,ho,hc,n,hd⟩,_⟩:=I.tuple hq;exact⟨_,aO,o,n,.inr rfl,r',ho,hc,hd⟩
 refine ST.XY hT ho hc hd (O6 r') hl λh1 vs jo e h' kp i1 i2 i3 i4 i5=>?_;have e1:jo=N7 ns:=N1 (i2.trans (BD ns).symm) i3 (GH ns);subst e1;have I1:Inv X pins Z H { s with heap:=h1 }:=I.kept (t':=s.toks) kp;have hz:(N7 ns).length<=10000:=by rw[(BD ns).length_eq];omega
 exact⟨.ref h1.objs.size,_,(I1.laid (a:=h1.objs.size) (o:=.lst ((N7 ns).map V.int)) (t':=s.toks) i5 (aj _) ⟨by rw[ao];exact aJ hz (by decide),vs,e,BG i1,i4⟩),rfl,q _ (I1.bw.fresh (aj _))⟩
theorem Gm:∀{ks:List Key} {l:List Value},l.length=ks.length->(∀(i:Nat) v,l[i]?=some v->∃k,ks[i]?=some k/\Y4 k v=true)->Vals (ks.map kV) l
 |[],[],_,_=>.nil
 |k::ks,v::l,hl,h=>by
  obtain⟨k',e,hk⟩:=h 0 v rfl;cases e;refine .cons ?_ (Gm (by simpa using hl) λi v e=>h (i+1) v e);rcases n9 hk with⟨i,t,rfl,rfl⟩|⟨x,t,rfl,rfl⟩<;>exact⟨t,rfl⟩
theorem WD(hc:X.calm=true):m7 X (.type "list") (λxs H Q=>∃a kvs,xs=[.ref a]/\H a=some (.dK kvs)/\kvs.length<=10000/\∀p,H p=none->Q (.ref p) (upd H p (.lst ((kvs.map (·.1)).map kV)))):=by
 intro pins s Z H xs us Q I r h;obtain⟨a,kvs,rfl,ha,hl,q⟩:=h;obtain⟨u,rfl,rx⟩:=vals1 r;cases rx;obtain⟨_,hd,vs,kv,hD⟩:=rY I.bw ha;obtain⟨ep,hA⟩:=hD.dictAt;have rB:vs.length<=10000:=by rw[<- kv.length];exact hl
 refine PySem.W.kdl_call (PySem.W.kdl_dict (kvs:=vs) (ep:=ep) hd) (I.ok.hd hc) hA (aJ rB (by decide)) λh' tk acc c k1 k2 k3=>?_;have hv:Vals ((kvs.map (·.1)).map kV) acc.toList:=by
  refine Gm (by rw[dk,k3.1,ao,kv.length]) λi v e=>?_;obtain⟨k,x,e1,e2⟩:=k3.2 i v (by simpa using e);exact⟨k,by rw[kv.keys,aB,e1];rfl,e2⟩
 exact⟨.ref s.heap.objs.size,_,(I.laid (a:=s.heap.objs.size) (o:=.lst ((kvs.map (·.1)).map kV)) (t':=tk) k1 (aj _) ⟨by rw[ao,ao];exact aJ hl (by decide),acc.toList,c,hv,by simpa using k2⟩),rfl,q _ (I.bw.fresh (aj _))⟩
end
end L2
namespace ST
open PySem PyProof.Rows
end ST
namespace L2
open PySem PyProof.Rows
section
variable{X:Cx}
theorem OK{h:Heap}{a:Addr}{ns:List Int}(x:ST.p9 X.prog X.w h a (ST.f9 [] ns)):h.SetOf (intKind X.prog X.w) a (λk=>decide (k∈ns)) (ST.f9 [] ns).length:=by
 obtain⟨o,es,ep,t,ho,hx,hd,my,hp,hn,hb,hf,hw⟩:=x;refine⟨o,es,ep,t,ho,hx,hd,my,λk=>?_,hb,hf,by rw[<- hp.length_eq];simp⟩;have mem:k∈ns↔k∈es.toList.map λe=>ST.toI e.2:=by rw[hp.mem_iff,ST.Bz];simp
 rw[cc,mem];constructor
 ·intro z;obtain⟨e,he,rfl⟩:=au.mp z;obtain⟨tk,h1,_⟩:=ST.wW my he;refine⟨e,he,?_⟩;rw[h1];exact eE _ _ _ _
 ·rintro⟨e,he,z⟩;obtain⟨tk,h1,_⟩:=ST.wW my he;refine au.mpr ⟨e,he,?_⟩;have h2:(intKind X.prog X.w).is (ST.toI e.2) e.2=true:=by rw[h1];exact eE _ _ _ _
  exact(intKind X.prog X.w).inj _ _ _ h2 z
theorem Zk(hc:X.calm=true):m7 X (.type "set") (λxs H Q=>∃a ns,xs=[.ref a]/\ft X.K H a (ns.map V.int)/\ns.length<600/\∀p,H p=none->Q (.ref p) (upd H p (.set (λk=>decide (k∈ns)) (ST.f9 [] ns).length))):=by
 intro pins s Z H xs us Q I r h;obtain⟨a,ns,rfl,hq,hl,q⟩:=h;cases r with
 |cons r rr =>
 cases rr;cases r;obtain⟨aO,rv,p,hz⟩:=I.list hq;have hI:=O6 rv;have hlen:=ST.xi hI;refine ST.Ie (ns:=ns) (I.ok.hd hc) (.inl p.isList) (by simpa using hI) (by rw[aA,hlen];exact ak (Nat.succ_lt_succ hl) (by decide)) λh' tk hS hk _=>?_;exact⟨.ref _,_,I.laid (a:=s.heap.objs.size) (o:=.set (λk=>decide (k∈ns)) (ST.f9 [] ns).length) (t':=tk) hk (aj _) (OK hS),rfl,q _ (I.bw.fresh (aj _))⟩
end
end L2
namespace L2
open PySem PySem.Spec PyProof.Rows
variable{w:World}{kx vx iter:Expr}{ifs:List Expr}{scope:Scope}{pos:Pos}
section
variable{prog:Program}{A:Around}{R:Result->Shared->Prop}{s:Shared}
theorem Zm{target:Expr}{it:Value}{D:Addr}{env:Env}(I:Nat->Shared->Prop)(turn:∀ n s,I n s->wpAny (model prog w) A (pyNext it) (λr bC=>match r with
   |none=>R (.ok .next) bC
   | some v=>wpAny (model prog w) A (letOwnedTupleGo target it v) (λ_ bC=>wpAny (model prog w) A (assign target env v) (λ_ fb =>
     wpAny (model prog w) A (forIn ifs true λc r=>if r=true then do let ok <- isTrue c env (eval c env);pure (ForInStep.yield ok) else pure (ForInStep.yield r)) (λok dy =>
      if ok=true then wpAny (model prog w) A (eval kx env) (λkv gI=>wpAny (model prog w) A (eval vx env) (λvv jL =>
       wpAny (model prog w) A (dictSet D kv vv) (λ_ sN=>∃ m,m < n/\I m sN) (λ_ _=>False) jL) (λ_ _=>False) gI) (λ_ _=>False) dy
      else ∃ m,m < n/\I m dy) (λ_ _=>False) fb) (λ_ _=>False) bC) (λ_ _=>False) bC) (λ_ _=>False) s)(n:Nat)(h:I n s) :
  codeAny (model prog w) A (.compLoop (.DictComp kx vx [⟨target,iter,ifs,0⟩] scope pos) 0 it (.ref D) env) R s:=by
 refine codeAny_loop rfl I (λn s hI=>?_) n h;show wpAny _ A ((compTurn (.DictComp kx vx [⟨target,iter,ifs,0⟩] scope pos) 0 it (.ref D) env).onRaise (λx=>do noteFrame x env;theTreesLotGoes x)) _ _ s;refine wpAny_noted ?_;rw[compTurn_dict];refine aa (cT (aa (aV (turn n s hI) (λr bC cF=>?_) λ_ _ h'=>h'.elim)));cases r with
 |none=>exact ai cF
 |some v =>
  refine aa (aV cF (λ_ bC cF=>?_) λ_ _ h'=>h'.elim);refine aa (aV cF (λ_ fb gw=>aa (aV gw (λok dy jQ=>?_) λ_ _ h'=>h'.elim)) λ_ _ h'=>h'.elim);cases ok with
  |false=>exact wpAny_pure ⟨rfl,jQ⟩
  |true =>
   exact aa (aa (aV jQ (λkv gI mn=>aa (bq (aV mn (λvv jL ml=>aa (cT (bq (aV ml (λ_ sN yD=>ai ⟨rfl,yD⟩) λ_ _ h'=>h'.elim)))) λ_ _ h'=>h'.elim))) λ_ _ h'=>h'.elim))
end
def MF(wi:TI)(d6:List Nat)(n:Nat)(g:TG)(tc:TT)(tk tv:TE):TE:=λZ H Q=>wi Z H λJ H1=>∃W:Nat->Nat->List (Key×V)->St->Hp->Prop,(∃m,W 0 m [] (u5 Z d6 n) H1)/\∀i m ys Z H,W i m ys Z H ->
 (J.stop i H/\∀p,H p=none->Q (.ref p) (upd H p (.dK ys))) \/
 (J.go i H/\ys.length < 1000/\∀ x H',J.nA i H x H'->g x Z H' λcq H2=>tc cq H2 λb H3 =>
  if b=true then tk cq H3 λy H4=>∃ k,y=kV k/\tv cq H4 λv H5=>∃ m',m' < m/\W (i + 1) m' (putK ys k v) cq H5 else ∃ m',m' < m/\W (i + 1) m' ys cq H3)
theorem P9{P:Program}{k:Key}{u:Value}(h:(i8 P w).is k u=true):RelV (kV k) u:=by
 rw[GB] at h;rcases n9 h with⟨j,t,e1,e2⟩|⟨x,t,e1,e2⟩
 ·subst e1 e2;exact⟨t,rfl⟩
 ·subst e1 e2;exact⟨t,rfl⟩
section
variable{X:Cx}{pins:List (Addr×Obj)}{Z:St}{H:Hp}{s:Shared}
theorem Yn{tg:Expr}{N':List Str}{d6:List Nat}{cl:List (Str×Addr)}{it:Addr}{fp:List Addr}{tn:Nat->Heap->Prop}{J:It}{g:TG}{tc:TT}{tk tv:TE}{RR:Value->Addr->Result->Shared->Prop}{E:Value->Shared->Prop}{W:Nat->Nat->List (Key×V)->St->Hp->Prop}{m0:Nat}{Q:VK}(S:cI X scope N' d6 cl)(hc:X.calm=true)(hg:∀C s H,PG (b9 X pins scope N' cl C s H fp) tg g)(ht:∀C s H,jD (b9 X pins scope N' cl C s H fp) ifs tc)(hk:∀C s H,PE (b9 X pins scope N' cl C s H fp) kx tk)(hv:∀C s H,PE (b9 X pins scope N' cl C s H fp) vx tv)(I:Inv X pins Z H s)(T:Turn X.prog X.w X.K tg J fp it tn)(st:tn 0 s.heap)(hf:∀b∈fp,w5 X pins H b)(w0:W 0 m0 [] (u5 Z d6 N'.length) H)(turn:∀ i m ys Z H,W i m ys Z H->(J.stop i H/\∀ p,H p=none->Q (.ref p) (upd H p (.dK ys))) \/
   (J.go i H/\ys.length < 1000/\∀ x H',J.nA i H x H'->g x Z H' λcq H2=>tc cq H2 λb H3 =>
    if b=true then tk cq H3 λy H4=>∃ k,y=kV k/\tv cq H4 λv H5=>∃ m',m' < m/\W (i + 1) m' (putK ys k v) cq H5 else ∃ m',m' < m/\W (i + 1) m' ys cq H3))(yM:∀D,s.heap.objs.size<=D->(D==sysModules)=false)(ue:∀D C s' H' m,Inv X pins Z H' s'->Q (.ref D) H'->s'.heap.Ns C m->H' C=none->s.heap.objs.size<=C->RR (.ref D) C (.ok .next) s') :
  wpAny (model X.prog X.w) X.A newDict (λacc dy=>wpAny (model X.prog X.w) X.A (newFunctionEnv scope X.env.globals cl [] X.env.qual none .none (some X.env)) (λjx gI =>
   codeAny (model X.prog X.w) X.A (.compStart (.DictComp kx vx [⟨tg,iter,ifs,0⟩] scope pos) 0 (.ref it) acc { jx with scope:=relabel scope X.env }) (RR acc jx.locals) gI) E dy) E s:=by
 refine bD (S6 λcF eV dG jR=>?_);dsimp only at eV dG jR ⊢;generalize kL:s.heap.push { cls:=.type "dict",dict:=none,data:=.dict #[] }=H2 at eV dG jR ⊢;generalize eD:s.heap.objs.size=D at *;have hC:H2.objs.size=D+1:=by rw[<- kL,dc,eD]
 generalize eC:H2.objs.size=C at *;have oR:D≠C:=by omega
 have lt:∀b o,s.heap.get? b=some o->b<D:=λb o e=>by rw[<- eD];exact av e
 have lY:D<=C:=by omega
 have mP:∀b o,s.heap.get? b=some o->b≠C:=λb o e=>aI (ak (lt b o e) lY);have jP:∀b o,s.heap.get? b=some o->b≠D:=λb o e=>aI (lt b o e);have old:∀b o,s.heap.get? b=some o->cF.get? b=some o:=λb o e=>dG b o (kL▸ah _ e);have ir:cF.get? D=some { cls:=.type "dict",dict:=none,data:=.dict #[] }:=dG _ _ (by rw[<- kL,<- eD];exact aw _ rfl);have pX:cF.DictOf (i8 X.prog X.w) D []:=(show(s.heap.push { cls:=.type "dict",dict:=none,data:=.dict #[] }).DictOf (i8 X.prog X.w) D [] by rw[<- eD];exact Heap.DictOf.new s.heap).at λo e=>dG _ _ (kL▸e);have gx:∀b∈fp,∃o,s.heap.get? b=some o:=λb hb=>by
  obtain⟨o,e,_⟩:=T.obj _ _ st b hb;exact⟨o,e⟩
 have oQ:D∉fp:=λhm=>by
  obtain⟨o,e⟩:=gx D hm;exact jP D o e rfl
 have X1:Inv (b9 X pins scope N' cl C s H fp) [] (u5 Z d6 N'.length) H { s with heap:=cF } :=
  I.Bu S hc hf gx (by rw[eD];omega) ⟨_,eV⟩ old jR
 have oE:tn 0 cF:=T.keep _ _ _ st λb _ o e=>old b o e;have uw:∀{H':Hp},(∀b∈fp,H' b=none)->∀b∈fp,w5 (b9 X pins scope N' cl C s H fp) [] H' b:=λhn b hb=>by
  obtain⟨f0,f1,f2,f3,f4,f5⟩:=hf b hb;obtain⟨o,e⟩:=gx b hb;refine⟨hn b hb,?_,?_,.inl hb,λx c q=>(Q4 jR q).elim (λl z=>absurd (cu (z▸l) (ak (lt b o e) lY)) (aX _)) λq=>f4 x c (S.cin x c q),λp hp=>?_⟩
  ·exact mP b o e
  ·exact λz=>by
    rcases ay.mp (I.J9 b z) with z|z
    ·exact f1 z
    ·exact f2 z
  ·have fI:p∈X.pn++pins:=by simpa[b9] using hp
   exact f5 p fI
 have fD:∀{H':Hp},H' D=none->w5 (b9 X pins scope N' cl C s H fp) [] H' D:=λhn=>by
  refine⟨hn,oR,λz=>?_,.inr (by show s.heap.objs.size<=D;omega),λx c q=>?_,λp hp=>?_⟩
  ·exact absurd (I.qD (a:=D) (by omega)) λko=>by
    rcases ay.mp (I.J9 D z) with z|z
    ·exact absurd I.lt (by rw[<- z,eD];exact aX _)
    ·exact ko z
  ·rcases Q4 jR q with l|q
   ·exact λz=>absurd (ak (z▸l) lY) (aX _)
   ·obtain⟨v,o,e,_⟩:=I.cell x c (S.cin x c q);exact jP c o e
  ·have fI:p∈X.pn++pins:=by simpa[b9] using hp
   exact jP _ _ (I.pin p fI).1
 have lT:∀{H':Hp} {s':Shared} {bI:St} {oD:Obj},si oD->Inv (b9 X pins scope N' cl C s H fp) [] bI H' s'->H' D=none->s'.heap.get? D=some oD ->
   Inv (b9 X pins scope N' cl C s H fp) [(D,oD)] bI H' s':=λ{H' s' bI oD} iq J0 hn e=>J0.E5 λp hp=>by
  have z:p=(D,oD):=by simpa using hp
  subst z;obtain⟨f0,f1,f2,_⟩:=fD hn;exact⟨e,f0,f1,f2,iq⟩
 have iX:∀{H':Hp} {oD:Obj},(∀b∈fp,H' b=none)->∀b∈fp,w5 (b9 X pins scope N' cl C s H fp) [(D,oD)] H' b:=λ{H' oD} hn b hb=>by
  obtain⟨f0,f1,f2,f3,f4,f5⟩:=uw hn b hb;refine⟨f0,f1,f2,f3,f4,λp hp=>?_⟩;have fI:p∈(b9 X pins scope N' cl C s H fp).pn\/p=(D,oD):=by simpa using hp
  rcases fI with z|z
  ·exact f5 p (cY _ z)
  ·subst z;exact λz=>oQ (by rw[show D=b from z];exact hb)
 have loop:∀dy:Shared,dy={ s with heap:=cF } ->
   codeAny (model X.prog X.w) X.A (.compLoop (.DictComp kx vx [⟨tg,iter,ifs,0⟩] scope pos) 0 (.ref it) (.ref D) (compEnvC scope (L8 scope cl C) C X.env)) (RR (.ref D) C) dy:=by
  rintro dy rfl;refine Zm (λn s'=>∃ (i:Nat) (ys:List (Key × V)) (bI:St) (H':Hp) (oD:Obj) (rs:List (Key × Value)),Inv (b9 X pins scope N' cl C s H fp) [] bI H' s'/\tn i s'.heap/\(∀ b ∈ fp,H' b=none)/\H' D=none/\ys.length <= 1000/\KV ys rs/\si oD /\
   s'.heap.get? D=some oD/\s'.heap.DictOf (i8 X.prog X.w) D rs/\W i n ys bI H') ?_ m0 ⟨0,[],_,H,{ cls:=.type "dict",dict:=none,data:=.dict #[] },[],X1,oE,λb hb=>(hf b hb).1,I.bw.fresh (by omega),bX _,Paired.nil,(λv z=>by have z':Data.dict _ _=Data.cell v:=z;cases z'),ir,pX,w0⟩
  rintro n s3 ⟨i,ys,gY,H3,oD,rs,I3,lR,mH,d3,z3,vY,c3,o3,S3,w3⟩;have pv:=lT c3 I3 d3 o3;rcases turn i n ys gY H3 w3 with⟨stop,q⟩|⟨go,hz,step⟩
  ·refine bZ (T.done (b9 X pins scope N' cl C s H fp) rfl rfl rfl rfl i _ s3 _ H3 _ pv (iX mH) lR stop) λr s4 ⟨hr,I4⟩=>?_;subst hr;have o4:=(I4.pin (D,oD) (by simp)).1;have J4:Inv X pins Z H3 s4:=I.AV hf I4;have ux:w5 X pins H3 D:=by
    refine⟨d3,bt (by rw[<- eD];exact I.lt),I.qD (by omega),.inr (by have:=I.sz;omega),λx c q=>?_,λp hp=>?_⟩
    ·obtain⟨v,o,e,_⟩:=I.cell x c q;exact jP c o e
    ·exact jP _ _ (I.pin p hp).1
   obtain⟨mC,tN,_⟩:=I4.loc;have S4:s4.heap.DictOf (i8 X.prog X.w) D rs:=S3.at λo e=>by rw[o3] at e;cases e;exact o4
   have K1:=J4.Hl (φ:=λh=>h.DictOf (i8 X.prog X.w) D rs) ux (by have:=I.sz;omega) ⟨S4,⟨_,o4⟩,λh1 h2 x k=>x.at k⟩;have K2:=Q3 (t':=s4.toks) (h':=s4.heap) (ob:=.dK ys) K1 (by rw[j6];exact True.intro) ⟨rfl,λ_ _=>rfl⟩ ⟨_,o4⟩ (va (aJ z3 (by decide)) (yM D (by omega)) vY S4);have eu:upd (upd H3 D (.ext λh=>h.DictOf (i8 X.prog X.w) D rs)) D (.dK ys)=upd H3 D (.dK ys):=funext λb=>by
    by_cases hb:b=D
    ·rw[hb,j6,j6]
    ·rw[d0 hb,d0 hb,d0 hb]
   rw[eu] at K2;exact ue D C s4 (upd H3 D (.dK ys)) mC K2 (q D d3) tN (by rw[d0 oR.symm];exact I4.free) (by omega)
  ·refine bZ (T.item (b9 X pins scope N' cl C s H fp) rfl rfl rfl rfl i _ s3 _ H3 _ pv (iX mH) lR go) λr s4 ⟨u,hr,h4⟩=>?_;subst hr;refine bZ h4 λ_ s5 aT=>?_;obtain⟨x,H5,I5,r5,y5,kj,qi⟩:=aT;have o5:=I5.pin (D,oD) (by simp);have qT:=I5.pinned (iX qi) (T.obj _ _ kj);refine bZ (hg C s H _ s5 _ H5 x u _ qT r5 (step x H5 y5)) λ_ s6 aT=>?_;obtain⟨ja,H6,I6,q6⟩:=aT;refine bZ (ht C s H _ s6 ja H6 _ I6 q6) λok s7 ⟨H7,I7,q7⟩=>?_;have back:∀{ow:St} {H8:Hp} {s8:Shared},Inv (b9 X pins scope N' cl C s H fp) ([(D,oD)]++V1 fp s5.heap) ow H8 s8->(∀b∈fp,H8 b=none)/\tn (i+1) s8.heap/\H8 D=none/\s8.heap.get? D=some oD :=
    λ{ow H8 s8} I8=>by
     have pf:∀b∈fp,∀o,s5.heap.get? b=some o->s8.heap.get? b=some o/\H8 b=none:=λb hb o e=>by
      have:=I8.pin (b,o) (aU _ (aU _ (N8 hb e)));exact⟨this.1,this.2.1⟩
     have pd:=I8.pin (D,oD) (by simp);refine⟨λb hb=>?_,T.keep _ _ _ kj λb hb o e=>(pf b hb o e).1,pd.2.1,pd.1⟩;obtain⟨o,e,_⟩:=T.obj _ _ kj b hb;exact(pf b hb o e).2
   cases ok with
   |false =>
    obtain⟨m',hm,w7⟩:=q7;obtain⟨b1,b2,b3,b4⟩:=back I7;exact⟨m',hm,i+1,ys,ja,H7,oD,rs,I7.E5 λp hp=>absurd hp (by simp),b2,b1,b3,z3,vY,c3,b4,S3.at λo e=>by rw[o3] at e;cases e;exact b4,w7⟩
   |true =>
    refine bZ (hk C s H _ s7 ja H7 _ I7 q7) λxk JC aT=>?_;obtain⟨y,H7',I7',JI,kk,ey,JS⟩:=aT;subst ey;refine bZ (hv C s H _ JC ja H7' _ I7' JS) λxv s8 aT=>?_;obtain⟨v,H8,I8,r8,m',hm,w8⟩:=aT;obtain⟨b1,b2,b3,b4⟩:=back I8;have S8:s8.heap.DictOf (i8 X.prog X.w) D rs:=S3.at λo e=>by rw[o3] at e;cases e;exact b4
    have Ke:rs.length=ys.length:=vY.length.symm;refine wpAny_dictSet_pairs (hsz:=by rw[Ke];exact aJ z3 (by decide)) (Y6 JI) S8 λh' S9 sb=>?_;have Kg:KV (putK ys kk v) (stored rs kk xv):=vY.put kk r8;obtain⟨o9,LH,LJ,g9,x9,d9,r9⟩:=id S9;have c9:si o9:=λv z=>by rw[d9] at z;cases z
    have vG:Inv (b9 X pins scope N' cl C s H fp) [] ja H8 s8:=I8.E5 λp hp=>absurd hp (by simp);obtain⟨f0,f1,f2,f3,f4,f5⟩:=fD (H':=H8) b3;have kp:∀b o,b≠D->s8.heap.get? b=some o->h'.get? b=some o:=λb' u hb hu=>by rw[sb.2 b' hb];exact hu
    refine⟨m',hm,i+1,putK ys kk v,ja,H8,o9,_,vG.turned (it:=D) (t':=s8.toks+1) kp f0 f1 f3 f4 f5,T.keep _ _ _ b2 λb hb o e=>kp b o (λz=>oQ (by rw[<- z];exact hb)) e,b1,b3,?_,Kg,c9,g9,S9,w8⟩;have:=R6 ys kk v;omega
 exact codeAny_compStart_dict (loop _ rfl) (T.self _ 0 _ _ _ oE (loop _ rfl))
theorem Qu{tg:Expr}{N':List Str}{d6:List Nat}{cl:List (Str×Addr)}{wi:TI}{g:TG}{tc:TT}{tk tv:TE}(S:cI X scope N' d6 cl)(hc:X.calm=true)(hi:PI X tg iter wi)(hg:∀pins C s H fp,PG (b9 X pins scope N' cl C s H fp) tg g)(ht:∀pins C s H fp,jD (b9 X pins scope N' cl C s H fp) ifs tc)(hk:∀pins C s H fp,PE (b9 X pins scope N' cl C s H fp) kx tk)(hv:∀pins C s H fp,PE (b9 X pins scope N' cl C s H fp) vx tv)(hs:∀x,foldedSetIterable iter X.env x=pure x):PE X (.DictComp kx vx [⟨tg,iter,ifs,0⟩] scope pos) (MF wi d6 N'.length g tc tk tv):=by
 intro pins s Z H Q I h;rw[arm_eval_DictComp];refine eX (use:=none) rfl hs S.nT S.kind S.names (bZ (hi pins s Z H _ I h) λxv bC cF=>bZ cF λrj fb gw=>?_);obtain⟨it,fp,tn,J,H2,e,I2,T,jk,f2,W,⟨m0,w0⟩,turn⟩:=gw;subst e;refine Yn (RR:=λacc C=>compPost (model X.prog X.w) X.A X.xe none (EP X pins Z Q) acc C) S hc (λC s H=>hg pins C s H fp) (λC s H=>ht pins C s H fp) (λC s H=>hk pins C s H fp) (λC s H=>hv pins C s H fp) I2 T jk f2 w0 turn (λD hD=>beq_false_of_ne (bt (ak I2.big hD))) ?_;intro D C s' H' m I' q hn hC hsz;exact⟨m,hn,λh' sb=>⟨.ref D,H',I'.BO hsz I2 hC sb,rfl,q⟩⟩
theorem Oe{e:Expr}{T T':TE}(h:PE X e T)(f:∀Z H Q,T' Z H Q->T Z H λx H'=>∃a φ kvs,H' a=some (.ext φ)/\(∀H' h',φ h'->m4 X.prog X.w H' h' a (.dK kvs))/\Q x (upd H' a (.dK kvs))):PE X e T':=by
 intro pins s Z H Q I q;refine bZ (h pins s Z H _ I (f Z H Q q)) λv s1 hq=>?_;obtain⟨x,H1,I1,r1,a,φ,kvs,ha,yE,q1⟩:=hq;obtain⟨p1,p2,_⟩:=I1.bw a _ ha;exact⟨x,_,Q3 (t':=s1.toks) (h':=s1.heap) I1 (by rw[ha];exact True.intro) ⟨rfl,λ_ _=>rfl⟩ p2 (yE _ _ p1),r1,q1⟩
theorem KV.at{kvs:List (Key×V)}{vs:List (Key×Value)}(r:KV kvs vs):∀{i:Nat} {k:Key} {x:V},kvs[i]?=some (k,x)->∃u,vs[i]?=some (k,u)/\RelV x u:=by
 unfold KV at r
 induction r with
 |nil=>intro i k x h;simp at h
 |cons h r ih =>
  intro i k x e;cases i with
  |zero =>
   simp at e;subst e;obtain⟨h1,h2⟩:=h;exact ⟨_,by
    show some _=some (k,_);have zX:k=_:=h1;rw [zX],h2⟩
  |succ i=>simpa using ih (by simpa using e)
theorem Yp:entryFor table "dict_itemiterator.__iter__"=some Builtin.«dict_keyiterator.__iter__» :=
 xU (id':="dict_keyiterator.__iter__") (by kernel_rfl) rfl (by decide +kernel) (by kernel_rfl)
def Jc(φ:Heap->Prop)(a:Addr)(kvs:List (Key×V)):It :=
 ⟨λi H=>H a=some (.ext φ)/\i<kvs.length,λi H v H'=>∃p k x,H p=none/\v=.ref p/\kvs[i]?=some (k,x)/\H'=upd H p (.tup [kV k,x]),λi H=>H a=some (.ext φ)/\kvs.length<=i⟩
theorem Yb{P:Program}{K:PySem.W.Frag}{elts:List Expr}{x1:Nat}{tp:Pos}(a it:Addr){kvs:List (Key×V)}(vs:List (Key×Value))(ep:Nat)(rel:KV kvs vs) :
  Turn P w K (.Tuple elts x1 tp) (Jc (λh=>h.DictAt (i8 P w) a vs ep) a kvs) [it] it (λi h=>∃ok ov,IsItemIter h it a i vs.length ep ok ov) where
 mem:=by simp
 obj:=λi h st b hb=>by
  obtain⟨ok,ov,h1⟩:=st;have z:b=it:=by simpa using hb
  subst z;exact ⟨_,h1,λv z=>by
   have z':Data.fields _=Data.cell v:=z;cases z'⟩
 keep:=λi h h' st k=>by
  obtain⟨ok,ov,h1⟩:=st;exact⟨ok,ov,k it (by simp) _ h1⟩
 item:=by
  intro X hP hw hK hc i pins s Z H E I hf st hg;subst hP hw hK;obtain⟨ok,ov,h1⟩:=st;obtain⟨ha,hi⟩:=hg;have hm:s.heap.DictAt (i8 X.prog X.w) a vs ep:=(I.bw a _ ha).1;obtain⟨k,x,hx⟩:∃k x,kvs[i]?=some (k,x):=⟨_,_,aC hi⟩
  obtain⟨u,hu,ru⟩:=rel.at hx;obtain⟨f0,f1,f2,f3,f4,f5⟩:=hf it (by simp);refine wpAny_pyNext_items_item h1 hm hu λkey h' lj ho ht hz hk=>?_;refine⟨_,rfl,wpAny_letOwnedTupleGo_items ho λh2 KJ gZ=>?_⟩;have gZ:Heap.SameBut it h' h2:=gZ;have elt:it<s.heap.objs.size:=av h1;have kp:∀b o,b≠it->s.heap.get? b=some o->h2.get? b=some o:=λb o b1 q=>(gZ.2 b b1).trans (hk b o b1 q);have hn:H s.heap.objs.size=none:=I.bw.fresh (aj _);have pF:h2.get? s.heap.objs.size=some { cls:=.type "tuple",data:=.seq #[key,u] }:=(gZ.2 _ (bt elt)).trans ht;have ne:∀b u',H b=some u'->b≠it:=λb u' q z=>by rw[z,f0] at q;cases q
  have bw:fR X.prog X.w (upd H s.heap.objs.size (.tup [kV k,x])) h2:=λb o q=>by
   by_cases hb:b=s.heap.objs.size
   ·subst hb;rw[j6] at q;cases q;exact⟨by show 2<=sizeLine;decide,[key,u],.cons (P9 lj) (.cons ru .nil),_,pF,rfl,⟨_,rfl⟩,rfl⟩
   ·rw[d0 hb] at q;refine(I.bw b o q).U6 (λc v hc q'=>?_) (λc q'=>by rw[d0 (i0 q' hn)];exact q') λc ys q'=>by rw[d0 (i0 q' hn)];exact q'
    rcases hc with z|z
    ·subst z;exact kp _ _ (ne _ _ q) q'
    ·exact kp _ _ (ne _ _ z) q'
  have I2:Inv X pins Z (upd H s.heap.objs.size (.tup [kV k,x])) { s with heap:=h2 }:=by
   refine I.step (g':=s.gens) (d':=s.drawn) (t':=s.toks) (ch:=[it]) (λb hb=>?_) (λb o _ _ hb q _=>kp b o (λz=>hb (by simp[z])) q) (λb o _ _ hb q _=>⟨o.slots,kp b o (λz=>hb (by simp[z])) q⟩)
    (λb o _ q n=>by rw[d0 (aI (av q))];exact n) (λb o hb q=>⟨o,kp b o (λz=>hb (by simp[z])) q⟩)
    (λb ys q=>by rw[d0 (i0 q hn)];exact q) (λb o' ys q=>by rw[d0 (i0 q hn)];exact q) (λb ps q=>⟨#[],by rw[d0 (i0 q hn),q];simp⟩) (λm hm=>?_) bw I.bare
   ·have z:b=it:=by simpa using hb
    subst z;exact⟨f3,f1,f4,f5⟩
   ·obtain⟨o,es,ep,ho,r⟩:=hm;exact⟨o,es,ep,kp _ o (aZ f1) ho,r⟩
  refine⟨.ref s.heap.objs.size,_,I2,rfl,⟨s.heap.objs.size,k,x,hn,rfl,hx,rfl⟩,⟨key,u,KJ⟩,λb hb=>?_⟩;have z:b=it:=by simpa using hb
  subst z;rw[d0 (aI elt)];exact f0
 done:=by
  intro X hP hw hK hc i pins s Z H E I hf st hg;subst hP hw hK;obtain⟨ok,ov,h1⟩:=st;obtain⟨ha,hi⟩:=hg;have hm:s.heap.DictAt (i8 X.prog X.w) a vs ep:=(I.bw a _ ha).1;obtain⟨f0,f1,f2,f3,f4,f5⟩:=hf it (by simp);exact wpAny_pyNext_items_end (I.ok.hd hc) h1 hm (dJ (by rw[<- rel.length];exact hi)) λh' eb=>⟨rfl,I.turned (t':=s.toks) (λb o hb e=>eb b o hb e) f0 f1 f3 f4 f5⟩
 self:=λ_ _ s _ _ st h=>by
  obtain⟨ok,ov,h1⟩:=st;have hT:s.TypeIs (.ref it) "dict_itemiterator":=⟨_,h1,rfl⟩
  refine nj hT jB (bL jB hT Yp ?_ (PySem.F.args_dict_itemiterator_iter_1 _));show wpAny _ _ (ret (.ref it)) _ _ s;exact ai ⟨_,rfl,"dict_itemiterator",_,hT,PySem.F.slot_dict_itemiterator_next.lookup,h⟩
theorem QC{o:Expr}{td:TE}{apos tp:Pos}{elts:List Expr}{x1:Nat}(ho:PE X o td)(fq:attributeBase o "items" X.env (eval o X.env)=eval o X.env)(fo:(apos.endLine==pos.line)=true) :
  PI X (.Tuple elts x1 tp) (.Call (.Attribute o "items" apos) [] [] pos) (λZ H R=>td Z H λv H1=>∃a kvs,v=.ref a/\H1 a=some (.dK kvs)/\∀φ:Heap->Prop,(∀H' h',φ h'->m4 X.prog X.w H' h' a (.dK kvs))->R (Jc φ a kvs) (upd H1 a (.ext φ))):=by
 intro pins s Z H R I h;refine wpAny_Call_method (T:="dict") (id:="dict.items") fq rfl fo qW qV PySem.F.type_dict_items (bZ (ho pins s Z H _ I h) λu s1 aT=>?_);obtain⟨x,H1,I1,rx,a,kvs,ex,ha,q⟩:=aT;subst ex;obtain rfl:u=Value.ref a:=rx;obtain⟨z,hd,vs,rel,dd⟩:=rY I1.bw ha;refine⟨dd.typeIs,dd.mapOf.noDict,?_⟩;show wpAny _ _ (callWith pos (.builtin "dict.items") [.ref a] [] []) _ _ s1;refine method_meetsIn qV PySem.F.entry_dict_items rfl (CQ ⟨rfl,dd.typeIs,PySem.F.args_dict_items_1 _,_,meets_dict_items (i8 X.prog X.w) a hd,⟨vs,dd⟩,?_⟩);obtain⟨o1,es,ep,r1⟩:=dd;have hm:s1.heap.DictAt (i8 X.prog X.w) a vs ep:=⟨o1,es,r1⟩
 have oN:=hm.push { cls:=.type "dict_items",data:=.fields #[.ref a] };have kH:(s1.heap.push { cls:=.type "dict_items",data:=.fields #[.ref a] }).objs.size=s1.heap.objs.size+1:=dc ..;refine wpAny_pyIter_items (v:=s1.heap.objs.size) ⟨_,aw _ rfl,rfl,rfl⟩ oN ?_;have kp:∀b o,s1.heap.get? b=some o->((s1.heap.push { cls:=.type "dict_items",data:=.fields #[.ref a] }).push { cls:=.type "dict_itemiterator",data:=.fields #[.none,.bool false,.ref a,.int 0 0,.int vs.length 0,.int ep 0,.none,.none] }).get? b=some o:=λb o e=>ah _ (ah _ e);have I2:=I1.kept (t':=s1.toks) kp;have rA:=oN.push { cls:=.type "dict_itemiterator",data:=.fields #[.none,.bool false,.ref a,.int 0 0,.int vs.length 0,.int ep 0,.none,.none] };have hit:IsItemIter ((s1.heap.push { cls:=.type "dict_items",data:=.fields #[.ref a] }).push { cls:=.type "dict_itemiterator",data:=.fields #[.none,.bool false,.ref a,.int 0 0,.int vs.length 0,.int ep 0,.none,.none] }) (s1.heap.push { cls:=.type "dict_items",data:=.fields #[.ref a] }).objs.size a 0 vs.length ep .none .none:=aw _ rfl;obtain⟨o3,es3,g3,r3⟩:=id rA;have I3:=Q3 (t':=s1.toks) (ob:=.ext λh=>h.DictAt (i8 X.prog X.w) a vs ep) I2 (by rw[ha];exact True.intro) ⟨rfl,λ_ _=>rfl⟩ ⟨_,g3⟩ ⟨rA,⟨_,g3⟩,λh1 h2 ⟨o,es,e,r⟩ k=>⟨o,es,k o e,r⟩⟩;refine⟨_,[_],_,_,_,rfl,I3,Yb a _ vs ep rel,⟨_,_,hit⟩,λb hb=>?_,q _ λH' h' e=>va z hd rel (let ⟨o,es,e⟩:=e;⟨o,es,ep,e⟩)⟩;have z:b=(s1.heap.push { cls:=.type "dict_items",data:=.fields #[.ref a] }).objs.size:=by simpa using hb
 have jd:s1.heap.objs.size<=b:=by rw[z,kH];exact fB _
 refine I1.nY jd ?_;rw[d0 (bt (ak hm.lt_size jd))];exact I1.bw.fresh jd
end
end L2
namespace M
open PySem L2
set_option genInjectivity true in
inductive D where
 |bf|bl (b:Bool)|int (i:Int)|str (x:Str)|ty (n:String)|ref (i:Nat)|tup (l:List D)
set_option genInjectivity true in
inductive O where
 |lst (l:List D)|nR (l:List D)
 |bO (kvs:List (Key×D))
 |ins (c:Str) (fs:List (Str×D))
 |set (S:Int->Bool) (n:Nat)
def O.mut:O->Bool
 |.nR _=>false
 |_=>true
def W0:D->Option Key
 |.int i=>some (.inl i)
 |.str x=>some (.inr x)
 |_=>none
def I9(kvs:List (Key×D))(k:Key):Option D:=(kvs.find? λkv=>decide (kv.1=k)).map (·.2)
def putD(kvs:List (Key×D))(k:Key)(v:D):List (Key×D) :=
 if(kvs.any λkv=>decide (kv.1=k))=true then kvs.map (λkv=>if kv.1=k then(kv.1,v) else kv) else kvs++[(k,v)]
def x8(f:Str)(v:D):List (Str×D)->List (Str×D)
 |[]=>[(f,v)]
 |(g,x)::r=>if g=f then(g,v)::r else(g,x)::x8 f v r
def R0:List D->Str->Option D
 |.tup [.str y,v]::r,x=>if x=y then some v else R0 r x
 |_::_,_=>none
 |[],_=>none
def qL:List D->Option Str
 |[]=>some Str.empty
 |.str x::r=>(qL r).map λy=>x++y
 |_=>none
structure Xn where
 cls:Str
noncomputable abbrev G:=List O
noncomputable abbrev S:=List (Option D)
noncomputable abbrev KD:=D->G->Prop
noncomputable abbrev KX:=Xn->G->Prop
noncomputable abbrev je:KX:=λ_ _=>False
def Ci:Option O->Option (List D)
 |some (.lst l)=>some l
 |some (.nR l)=>some l
 |_=>none
noncomputable abbrev d7(g:G)(a:Nat):Option (List D):=Ci g[a]?
def rd(g:G):Nat->D->Option PyData
 |_,.bf=>some .none
 |_,.bl b=>some (.bool b)
 |_,.int i=>some (.int i)
 |_,.str x=>some (.str x)
 |_,.ty _=>none
 |0,.ref _=>none
 |0,.tup _=>none
 |n+1,.ref a=>match d7 g a with
  |some l=>(l.mapM (rd g n)).map .list
  |none=>none
 |n+1,.tup l=>(l.mapM (rd g n)).map .tuple
def Dr(g:G)(l:List D):Option (List PyData):=l.mapM (rd g 6)
def F7(g:G):D->Option (List D)
 |.tup l=>some l
 |.ref a=>d7 g a
 |_=>none
def qK:D->Bool
 |.bf=>true
 |_=>false
def cut{α:Type}(xs:List α)(lo hi:Option Int):List α:=(xs.drop (HT.dB xs.length 0 lo)).take (HT.dB xs.length xs.length hi-HT.dB xs.length 0 lo)
def qx(g:G)(x:D)(c:String):Option Bool:=match x with
 |.bf=>some (c=="NoneType")
 |.bl _=>some (c=="bool"||c=="int")
 |.int _=>some (c=="int")
 |.str _=>some (c=="str")
 |.tup _=>some (c=="tuple")
 |.ref a=>match g[a]? with
  |some (.lst _)=>some (c=="list")
  |_=>none
 |.ty _=>none
def A4(lo:Int)(n:Nat):List D:=(List.range n).map λ(k:Nat)=>.int (lo+k)
def Y9:List D->Option Bool
 |[]=>some true
 |.bl b::r=>(Y9 r).map λc=>b&&c
 |_=>none
inductive Pr where
 |bin (op:Operator)|un (op:UnaryOp)|cmp (op:CmpOp)
 |ix|kY (lo hi:Bool)|rev|tup|lst|T3
 |len|list|tuple|isin|all|max|min|int|str|lX|lW|sset|Jy|uA
 |Ef|uu|mF|fv|mG|fld (f:Str)
 |append|pop|get|index|join|iadd|clear|pM|extend|any|eK|sum|V8|nG|kZ|pQ|mI|iM|kG (i:Int)
noncomputable abbrev DR:=List D->G->D->G->Prop
def WM:Operator->Int->Int->Int->Prop
 |.Add,i,j,r=>r=i+j
 |.Sub,i,j,r=>r=i-j
 |.Mult,i,j,r=>qt i j/\r=i*j
 |.FloorDiv,i,j,r=>Ao i j/\r=i / j
 |.Mod,i,j,r=>0<j/\r=i % j
 |.Pow,i,j,r=>nU i j/\r=i ^ j.toNat
 |.LShift,i,j,r=>nU i j/\r=i*2 ^ j.toNat
 |.BitAnd,i,j,r=>r=Builtin.bitAnd i j
 |.BitOr,i,j,r=>r=Builtin.bitOr i j
 |_,_,_,_=>False
def Wo(op:Operator):DR:=λxs g d g' =>
 (∃i j r,xs=[.int i,.int j]/\WM op i j r/\d=.int r/\g'=g) \/
 (op=.Add/\((∃ l m,xs=[.tup l,.tup m]/\l.length + m.length <= 100000/\d=.tup (l ++ m)/\g'=g) \/
  (∃a b l m,xs=[.ref a,.ref b]/\g[a]?=some (.lst l)/\g[b]?=some (.lst m)/\l.length+m.length<=100000/\d=.ref g.length/\g'=g++[.lst (l++m)]) \/
  (∃ x y,xs=[.str x,.str y]/\x.length + y.length <= 100000/\d=.str (x ++ y)/\g'=g))) \/
 (op=.Mult/\((∃ a l n,xs=[.ref a,.int n]/\g[a]?=some (.lst l)/\-(2 ^ 62) <= n/\n < 2 ^ 62/\l.length * n.toNat <= 100000/\d=.ref g.length/\g'=g ++ [.lst (List.replicate n.toNat l).flatten]) \/
  (∃ l n,xs=[.tup l,.int n]/\l ≠ []/\1 <= n/\n < 2 ^ 62/\l.length * n.toNat <= 100000/\d=.tup (List.replicate n.toNat l).flatten/\g'=g)))
def Jr(op:UnaryOp):DR:=λxs g d g'=>op=.USub/\∃i,xs=[.int i]/\d=.int (-i)/\g'=g
def uz(g:G)(x y:D)(b:Bool):Prop :=
 (∃i j,x=.int i/\y=.int j/\b=decide (i=j))\/(∃i j,x=.bl i/\y=.bl j/\b=(i==j))\/(∃i j,x=.str i/\y=.str j/\b=decide (i=j)) \/
 ∃p q,rd g 6 x=some p/\rd g 6 y=some q/\p.canLay0=true/\q.canLay0=true/\b=PyData.eqv p q
def inR(g:G)(x y:D)(b:Bool):Prop :=
 (∃a kvs c,y=.ref a/\g[a]?=some (.bO kvs)/\W0 x=some c/\b=(I9 kvs c).isSome) \/
 ∃l ps p,F7 g y=some l/\Dr g l=some ps/\rd g 6 x=some p/\PyData.canLayAll0 ps=true/\p.canLay0=true/\b=(ps.any λq=>PyData.eqv q p)
def Ey(g:G)(x y:D)(b:Bool):Prop:=∃a S n i,y=.ref a/\g[a]?=some (.set S n)/\x=.int i/\b=S i
def Fy(g:G)(x y:D)(b:Bool):CmpOp->Prop
 |.Eq=>uz g x y b
 |.NotEq=>uz g x y (!b)
 |.In=>inR g x y b\/Ey g x y b
 |.NotIn=>inR g x y (!b)\/Ey g x y (!b)
 |.Lt=>∃i j,x=.int i/\y=.int j/\b=decide (i<j)
 |.LtE=>∃i j,x=.int i/\y=.int j/\b=decide (i<=j)
 |.Gt=>∃i j,x=.int i/\y=.int j/\b=decide (j<i)
 |.GtE=>∃i j,x=.int i/\y=.int j/\b=decide (j<=i)
 |.Is=>y=.bf/\b=qK x
 |.IsNot=>y=.bf/\b=!qK x
def Wu(op:CmpOp):DR:=λxs g d g'=>∃x y b,xs=[x,y]/\Fy g x y b op/\d=.bl b/\g'=g
def EA(g:G)(x:D)(b:Bool):Prop :=
 (x=.bf/\b=false)\/x=.bl b\/(∃i,x=.int i/\b=(i != 0))\/(∃l,x=.tup l/\b=!l.isEmpty)\/∃a l,x=.ref a/\d7 g a=some l/\b=!l.isEmpty
def Kk:DR:=λxs g d g'=>g'=g/\((∃x l i,xs=[x,.int i]/\F7 g x=some l/\iY l i=some d)\/(∃a kvs y c,xs=[.ref a,y]/\g[a]?=some (.bO kvs)/\W0 y=some c/\I9 kvs c=some d) \/
 ∃ x i c,xs=[.str x,.int i]/\x.length <= 100000/\iY x.cps.toList i=some c/\d=.str ⟨#[c]⟩)
def sQ(x:D)(lo hi:Option Int)(g:G)(d:D)(g':G):Prop:=(∃l,x=.tup l/\d=.tup (cut l lo hi)/\g'=g)\/∃a l,x=.ref a/\d7 g a=some l/\d=.ref g.length/\g'=g++[.lst (cut l lo hi)]
def RI:Bool->Bool->DR
 |false,false,xs,g,d,g'=>∃x,xs=[x]/\sQ x none none g d g'
 |true,false,xs,g,d,g'=>∃x i,xs=[x,.int i]/\sQ x (some i) none g d g'
 |false,true,xs,g,d,g'=>∃x j,xs=[x,.int j]/\sQ x none (some j) g d g'
 |true,true,xs,g,d,g'=>∃x i j,xs=[x,.int i,.int j]/\sQ x (some i) (some j) g d g'
def RD:DR:=λxs g d g'=>(∃l,xs=[.tup l]/\d=.tup l.reverse/\g'=g)\/∃a l,xs=[.ref a]/\d7 g a=some l/\d=.ref g.length/\g'=g++[.lst l.reverse]
def Sj:DR:=λxs g d g'=>xs.length<=1000/\d=.tup xs/\g'=g
def QY:DR:=λxs g d g'=>xs.length<=1000/\d=.ref g.length/\g'=g++[.lst xs]
def rO:List D->List (Key×D)->Option (List (Key×D))
 |[],kvs=>some kvs
 |k::v::r,kvs=>(W0 k).bind λc=>rO r (putD kvs c v)
 |_,_=>none
def SK:DR:=λxs g d g'=>xs=[]/\d=.ref g.length/\g'=g++[.bO []]
def QW:DR:=λxs g d g'=>g'=g/\((∃x l,xs=[x]/\F7 g x=some l/\d=.int l.length)\/(∃a kvs,xs=[.ref a]/\g[a]?=some (.bO kvs)/\d=.int kvs.length)\/∃x,xs=[.str x]/\x.length<=100000/\d=.int x.length)
def kD:Key->D
 |.inl i=>.int i
 |.inr x=>.str x
def To:DR:=λxs g d g'=>(∃x l,xs=[x]/\F7 g x=some l/\d=.ref g.length/\g'=g++[.lst l])\/∃a kvs,xs=[.ref a]/\g[a]?=some (.bO kvs)/\kvs.length<=10000/\d=.ref g.length/\g'=g++[.lst ((kvs.map (·.1)).map kD)]
def MP:DR:=λxs g d g'=>∃x l,xs=[x]/\F7 g x=some l/\d=.tup l/\g'=g
def Ta:DR:=λxs g d g'=>∃x c b,xs=[x,.ty c]/\c∈["int","bool","str","tuple","list"]/\qx g x c=some b/\d=.bl b/\g'=g
def allR:DR:=λxs g d g'=>∃a l b,xs=[.ref a]/\d7 g a=some l/\(Y9 l=some b\/∃ns:List Int,l=ns.map .int/\b=ns.all λn=>n != 0)/\d=.bl b/\g'=g
def EE:List D->Option Bool
 |[]=>some false
 |.bl b::r=>(EE r).map λc=>b||c
 |_=>none
def anyR:DR:=λxs g d g'=>∃a l b,xs=[.ref a]/\d7 g a=some l/\EE l=some b/\d=.bl b/\g'=g
def Mt:DR:=λxs g d g'=>(∃a kvs ns,xs=[.ref a]/\g[a]?=some (.bO kvs)/\kvs.map (·.1)=ns.map Sum.inl/\ns.length<60/\d=.ref g.length/\g'=g++[.lst ((q9 ns).map .int)])\/∃x,∃ns:List Int,xs=[x]/\F7 g x=some (ns.map .int)/\ns.length<60/\d=.ref g.length/\g'=g++[.lst ((N7 ns).map .int)]
def QZ:DR:=λxs g d g'=>g'=g/\((∃i j,xs=[.int i,.int j]/\d=.int (if j>i then j else i))\/∃a,∃(ns:List Int) (M:Int),xs=[.ref a]/\d7 g a=some (ns.map .int)/\M∈ns/\(∀x∈ns,x<=M)/\d=.int M)
def Ra:DR:=λxs g d g'=>g'=g/\((∃i j,xs=[.int i,.int j]/\d=.int (if j<i then j else i))\/∃a,∃(ns:List Int) (M:Int),xs=[.ref a]/\d7 g a=some (ns.map .int)/\M∈ns/\(∀x∈ns,M<=x)/\d=.int M)
def Ue:DR:=λxs g d g'=>∃a i S n,xs=[.ref a,.int i]/\g[a]?=some (.set S n)/\n+1<4096/\d=.bf/\g'=g.set a (.set (λk=>S k||decide (k=i)) (if S i then n else n+1))
def Tn:DR:=λxs g d g'=>∃a,∃ns:List Int,xs=[.ref a]/\d7 g a=some (ns.map .int)/\ns.length<600/\d=.ref g.length/\g'=g++[.set (λk=>decide (k∈ns)) (ST.f9 [] ns).length]
def L'(i:Int):DR:=λxs g d g'=>xs=[]/\d=.ref g.length/\g'=g++[.set (λk=>decide (k=i)) 1]
def RK:DR:=λxs g d g'=>∃a,∃ns:List Int,xs=[.ref a]/\d7 g a=some (ns.map .int)/\d=.int ns.sum/\g'=g
def Tp:DR:=λxs g d g'=>∃a,∃ns:List Int,xs=[.ref a]/\d7 g a=some (ns.map .int)/\ns.length<60/\d=.int (ST.f9 [] ns).length/\g'=g
def Tb:DR:=λxs g d g'=>∃i j,xs=[.int i,.int j]/\d=.int (i-j)/\g'=g
def QS:DR:=λxs g d g'=>g'=g/\((∃i,xs=[.int i]/\d=.int i)\/∃b,xs=[.bl b]/\d=.int (if b then 1 else 0))
def RJ:DR:=λxs g d g'=>(∃i,xs=[.int i]/\i.natAbs.log2<1920/\d=.str (toString i)/\g'=g)\/∃x,xs=[.str x]/\d=.str x/\g'=g
def Vj:DR:=λxs g d g'=>∃j,xs=[.int j]/\-(2 ^ 62)<=j/\j<=100000/\d=.ref g.length/\g'=g++[.lst (A4 0 j.toNat)]
def Vk:DR:=λxs g d g'=>∃i j,xs=[.int i,.int j]/\(-(2 ^ 62)<=i/\i<2 ^ 62/\-(2 ^ 62)<=j/\j<2 ^ 62/\j-i<=100000)/\d=.ref g.length/\g'=g++[.lst (A4 i (j-i).toNat)]
def Uj:DR:=λxs g d g'=>∃a ns,xs=[.ref a]/\d7 g a=some (ns.map .int)/\ns.length<60/\d=.ref g.length/\g'=g++[.lst ((q9 ns).map .int)]
def RL:DR:=λxs g d g'=>∃ns ms:List Int,xs=[.tup (ns.map .int),.tup (ms.map .int)]/\(∀k∈ns,ST.Spot k)/\(∀k∈ms,ST.Spot k)/\ns.length+ms.length<50/\d=.ref g.length/\g'=g++[.lst ((q9 (ns++ms)).map .int)]
def Av(neg:Bool):DR:=λxs g d g'=>∃kvs x,xs=[.tup kvs,.str x]/\d=.bl (xor neg (R0 kvs x).isSome)/\g'=g
def SS:DR:=λxs g d g'=>∃kvs x,xs=[.tup kvs,.str x]/\R0 kvs x=some d/\g'=g
def LC:DR:=λxs g d g'=>g'=g/\((∃i,xs=[.int i]/\i.natAbs.log2<1920/\d=.str (toString i))\/∃x,xs=[.str x]/\x.length<=2000/\d=.str x)
def SR:DR:=λxs g d g'=>∃x,qL xs=some x/\d=.str x/\g'=g
def QM(f:Str):DR:=λxs g d g'=>∃a c fs,xs=[.ref a]/\g[a]?=some (.ins c fs)/\fs.lookup f=some d/\g'=g
def appendR:DR:=λxs g d g'=>∃a y l,xs=[.ref a,y]/\g[a]?=some (.lst l)/\l.length<100000/\d=.bf/\g'=g.set a (.lst (l++[y]))
def Rp:DR:=λxs g d g'=>∃a i l k,xs=[.ref a,.int i]/\g[a]?=some (.lst l)/\-(2 ^ 63)<=i/\i<2 ^ 63/\seqIndex? i l.length=some k/\l[k]?=some d/\g'=g.set a (.lst (l.eraseIdx k))
def QO:DR:=λxs g d g'=>∃a y z kvs c,xs=[.ref a,y,z]/\g[a]?=some (.bO kvs)/\W0 y=some c/\d=(I9 kvs c).getD z/\g'=g
def xG:D->Bool
 |.bf=>true
 |.bl _=>true
 |.int _=>true
 |.str _=>true
 |_=>false
def toV:D->V
 |.bl b=>.bl b
 |.int i=>.int i
 |.str x=>.str x
 |_=>.bf
def II(l:List D)(y:D)(n:Nat):Prop:=l.all xG=true/\xG y=true/\(∃z,l[n]?=some z/\lA (toV z) (toV y)=true)/\∀(m:Nat) z,m<n->l[m]?=some z->lA (toV z) (toV y)=false
def UX:DR:=λxs g d g'=>∃x y l n,xs=[x,y]/\F7 g x=some l/\II l y n/\l.length<=100000/\d=.int n/\g'=g
def joinR:DR:=λxs g d g'=>∃sep a ys,xs=[.str sep,.ref a]/\d7 g a=some (ys.map .str)/\NA sep ys<=100000/\d=.str (Builtin.Str.glued sep ys)/\g'=g
def SX:DR:=λxs g d g'=>(∃i j,xs=[.int i,.int j]/\d=.int (i+j)/\g'=g)\/∃l m,xs=[.tup l,.tup m]/\l.length+m.length<=100000/\d=.tup (l++m)/\g'=g
def UO:DR:=λxs g d g'=>∃a l,xs=[.ref a]/\g[a]?=some (.lst l)/\d=.bf/\g'=g.set a (.lst [])
def TR:DR:=λxs g d g'=>∃a l,xs=[.ref a]/\g[a]?=some (.lst (l++[d]))/\g'=g.set a (.lst l)
def Np:DR:=λxs g d g'=>∃a b l m,xs=[.ref a,.ref b]/\g[a]?=some (.lst l)/\g[b]?=some (.lst m)/\l.length+m.length<=100000/\d=.bf/\g'=g.set a (.lst (l++m))
def UQ:DR:=λxs g d g'=>(∃a kvs,xs=[.ref a]/\g[a]?=some (.bO kvs)/\d=.ref g.length/\g'=g++[.bO kvs])\/∃a,∃ks:List Int,xs=[.ref a]/\d7 g a=some (ks.map λk=>.tup [.int k,.bl true])/\ks.length<=1000/\ks.Nodup/\d=.ref g.length/\g'=g++[.bO (ks.map λk=>(.inl k,.bl true))]
def iX(p:Key×Int×Int):Key×D:=(p.1,.tup [.int p.2.1,.int p.2.2])
def Y5(n:Int)(p:Key×Int×Int):Bool:=!(decide (p.2.1=n)||decide (p.2.2=n))
def SJ:DR:=λxs g d g'=>∃a n,∃fs:List (Key×Int×Int),xs=[.ref a,.int n]/\g[a]?=some (.bO (fs.map iX))/\fs.length<1000/\(fs.map (·.1)).Nodup/\d=.ref g.length/\g'=g++[.bO ((fs.filter (Y5 n)).map iX)]
def delD(kvs:List (Key×D))(k:Key):List (Key×D):=kvs.filter λkv=>decide (kv.1≠k)
def SM:DR:=λxs g d g'=>∃a y kvs c,xs=[.ref a,y]/\g[a]?=some (.bO kvs)/\W0 y=some c/\I9 kvs c=some d/\g'=g.set a (.bO (delD kvs c))
def PR:Pr->DR
 |.mI=>SJ
 |.iM=>SM
 |.clear=>UO
 |.any=>anyR
 |.sum=>RK
 |.kZ=>Ue
 |.pQ=>Tn
 |.kG i=>L' i
 |.V8=>Tp
 |.nG=>Tb
 |.eK=>Mt
 |.extend=>Np
 |.pM=>TR
 |.uA=>UQ
 |.bin op=>Wo op
 |.un op=>Jr op
 |.cmp op=>Wu op
 |.ix=>Kk
 |.kY a b=>RI a b
 |.rev=>RD
 |.tup=>Sj
 |.lst=>QY
 |.T3=>SK
 |.len=>QW
 |.list=>To
 |.tuple=>MP
 |.isin=>Ta
 |.all=>allR
 |.max=>QZ
 |.min=>Ra
 |.int=>QS
 |.str=>RJ
 |.lX=>Vj
 |.lW=>Vk
 |.sset=>Uj
 |.Jy=>RL
 |.Ef=>Av false
 |.uu=>Av true
 |.mF=>SS
 |.fv=>LC
 |.mG=>SR
 |.fld f=>QM f
 |.append=>appendR
 |.pop=>Rp
 |.get=>QO
 |.index=>UX
 |.join=>joinR
 |.iadd=>SX
def cK(p:Pr)(xs:List D)(g:G)(Q:KD):Prop:=∃d g',PR p xs g d g'/\Q d g'
def rG(g:G)(x y:D)(k:Bool->Prop):Prop:=∃b,uz g x y b/\k b
def pR(g:G)(x y:D)(k:Bool->Prop):Prop:=∃b,inR g x y b/\k b
def pj(g:G)(x:D)(k:Bool->Prop):Prop:=∃b,EA g x b/\k b
def RH(x y v:D)(g g':G):Prop:=(∃a i l j,x=.ref a/\y=.int i/\g[a]?=some (.lst l)/\mR l.length i=some j/\g'=g.set a (.lst (l.set j v))) \/
 ∃a kvs c,x=.ref a/\g[a]?=some (.bO kvs)/\W0 y=some c/\kvs.length<100000/\g'=g.set a (.bO (putD kvs c v))
def oi(x y v:D)(g:G)(k:G->Prop):Prop:=∃g',RH x y v g g'/\k g'
def Ff(f:Str)(cs:List Str)(x v:D)(g g':G):Prop:=∃a c fs,x=.ref a/\g[a]?=some (.ins c fs)/\c∈cs/\fs.length<100/\g'=g.set a (.ins c (x8 f v fs))
def uT(f:Str)(cs:List Str)(x v:D)(g:G)(k:G->Prop):Prop:=∃g',Ff f cs x v g g'/\k g'
def nE:Pr->D->G->Prop
 |.get,x,g=>∃a kvs,x=.ref a/\g[a]?=some (.bO kvs)
 |.iM,x,g=>∃a kvs,x=.ref a/\g[a]?=some (.bO kvs)
 |.join,x,g=>∃y,x=.str y
 |.kZ,x,g=>∃a S n,x=.ref a/\g[a]?=some (.set S n)
 |.index,x,g=>(∃l,x=.tup l)\/∃a l,x=.ref a/\d7 g a=some l
 |_,x,g=>∃a l,x=.ref a/\d7 g a=some l
inductive IK where
 |fix (l:List D)|lst (a:Nat)|ql (a:Nat)|vV (a n:Nat)
def IK.at:IK->Nat->G->Option (Option D)
 |.fix l,i,_=>some l[i]?
 |.lst a,i,g=>match d7 g a with
  |some l=>some l[i]?
  |none=>none
 |.ql a,i,g=>match d7 g a with
  |some l=>some (l[i]?.map λd=>.tup [.int i,d])
  |none=>none
 |.vV a n,i,g=>match d7 g a with
  |some l=>if l.length=n then some (if i<n then l[n-1-i]? else none) else none
  |none=>none
inductive MT where
 |one (i:Nat)|many (is:List Nat)
def F5:List Nat->List D->S->Option S
 |[],[],Z=>some Z
 |i::is,d::ds,Z=>F5 is ds (Z.set i (some d))
 |_,_,_=>none
def jK(t:MT)(x:D)(Z:S)(k:S->Prop):Prop:=match t with
 |.one i=>k (Z.set i (some x))
 |.many is=>∃l bI,x=.tup l/\F5 is l Z=some bI/\k bI
set_option genInjectivity false in
set_option genSizeOf false in
inductive ME where
 |var (i:Nat)|lit (d:D)
 |nil|cons (a b:ME)|prim (p:Pr) (es:ME)|eL (p:Pr) (o es:ME)|ng (es:ME)
 |chain (o1 o2:CmpOp) (a b c:ME)
 |dH (a b:ME)|gC (a b:ME)|cV (a:ME)|ite (c a b:ME)
 |call (f:Nat) (es:ME)|make (c:Str) (f:Nat) (es:ME)|bx (m:Str) (cs:List (Str×Nat)) (o es:ME)
 |comp (d6:List Nat) (n:Nat) (tg:MT) (it cond elt:ME)|gJ (d6:List Nat) (n:Nat) (tg:MT) (it cond elt:ME)|jM (d6:List Nat) (n:Nat) (tg:MT) (it cond elt:ME)
 |eR (e:ME)|fF (a:ME)|iW (a b:ME)|kl (e:ME)|nF (e:ME)|dU (e:ME)|no
noncomputable abbrev eO:=Nat->List D->G->KD->KX->Prop
def O8(Z:S)(d6:List Nat)(n:Nat):S:=d6.map (λj=>(Z[j]?).join)++List.replicate (n-d6.length) none
def turns(k:IK)(Z:S)(g:G)(fin:S->G->Prop)(turn:D->(S->G->Prop)->S->G->Prop):Prop :=
 ∃W:Nat->Nat->S->G->Prop,(∃m,W 0 m Z g)/\∀i m Z g,W i m Z g->(k.at i g=some none/\fin Z g)\/∃x,k.at i g=some (some x)/\∃N2:S->G->Prop,(∀bI g',N2 bI g'->∃m',m'<m/\W (i+1) m' bI g')/\turn x N2 Z g
def wL(k:IK)(Z:S)(g:G)(fin:List D->G->Prop)(turn:D->(Option D->S->G->Prop)->S->G->Prop):Prop :=
 ∃W:Nat->Nat->List D->S->G->Prop,(∃m,W 0 m [] Z g)/\∀i m ys Z g,W i m ys Z g->(k.at i g=some none/\fin ys g) \/
  ∃x,k.at i g=some (some x)/\ys.length<100000/\turn x (λy bI g'=>∃m',m'<m/\W (i+1) m' (ys++y.toList) bI g') Z g
def Cp(k:IK)(Z:S)(g:G)(fin:List Int->G->Prop)(turn:D->(Option Int->S->G->Prop)->S->G->Prop):Prop :=
 ∃W:Nat->Nat->List Int->S->G->Prop,(∃m,W 0 m [] Z g)/\∀i m ys Z g,W i m ys Z g->(k.at i g=some none/\ys.length<60/\fin ys g) \/
  ∃x,k.at i g=some (some x)/\ys.length<60/\turn x (λy bI g'=>∃m',m'<m/\W (i+1) m' (ys++y.toList) bI g') Z g
mutual
noncomputable def aS(P:eO):ME->S->G->KD->KX->Prop
 |.var i,Z,g,Q,_=>∃d,Z[i]?=some (some d)/\Q d g
 |.lit d,_,g,Q,_=>Q d g
 |.prim p es,Z,g,Q,E=>fe P es Z g (λxs g1=>cK p xs g1 Q) E
 |.eL p o es,Z,g,Q,E=>aS P o Z g (λx g1=>nE p x g1/\fe P es Z g1 (λxs g2=>cK p (x::xs) g2 Q) E) E
 |.ng es,Z,g,Q,E=>fe P es Z (g++[.bO []]) (λxs g1=>∃kvs,rO xs []=some kvs/\xs.length<=30/\g1[g.length]?=some (.bO [])/\Q (.ref g.length) (g1.set g.length (.bO kvs))) E
 |.chain o1 o2 a b c,Z,g,Q,E=>aS P a Z g (λx g1=>aS P b Z g1 (λy g2=>cK (.cmp o1) [x,y] g2 λz g3=>∃t,z=.bl t/\if t=true then aS P c Z g3 (λw g4=>cK (.cmp o2) [y,w] g4 Q) E else Q (.bl false) g3) E) E
 |.dH a b,Z,g,Q,E=>aS P a Z g (λx g1=>∃t,x=.bl t/\if t=true then aS P b Z g1 Q E else Q (.bl false) g1) E
 |.gC a b,Z,g,Q,E=>aS P a Z g (λx g1=>∃t,x=.bl t/\if t=true then Q (.bl true) g1 else aS P b Z g1 Q E) E
 |.cV a,Z,g,Q,E=>aS P a Z g (λx g1=>∃t,x=.bl t/\Q (.bl (!t)) g1) E
 |.ite c a b,Z,g,Q,E=>dw P c Z g (λt g1=>if t=true then aS P a Z g1 Q E else aS P b Z g1 Q E) E
 |.call f es,Z,g,Q,E=>fe P es Z g (λxs g1=>P f xs g1 Q E) E
 |.make c f es,Z,g,Q,E=>fe P es Z g (λxs g1=>P f (.ref g1.length::xs) (g1++[.ins c []]) (λd g2=>d=.bf/\Q (.ref g1.length) g2) E) E
 |.bx m cs o es,Z,g,Q,E=>aS P o Z g (λx g1=>∃a c fs f,x=.ref a/\g1[a]?=some (.ins c fs)/\fs.lookup m=none/\cs.lookup c=some f/\fe P es Z g1 (λxs g2=>P f (x::xs) g2 Q E) E) E
 |.comp d6 n tg it cond elt,Z,g,Q,E=>gH P it Z g (λk g1=>wL k (O8 Z d6 n) g1 (λys g=>Q (.ref g.length) (g++[.lst ys])) λx N Z g=>jK tg x Z λcq=>dw P cond cq g (λb g3=>if b=true then aS P elt cq g3 (λy g4=>N (some y) cq g4) je else N none cq g3) je) E
 |.jM d6 n tg it cond elt,Z,g,Q,E=>gH P it Z g (λk g1=>wL k (O8 Z d6 n) g1 (λys g=>Q (.ref g.length) (g++[.lst ys])) λx N Z g=>jK tg x Z λcq=>dw P cond cq g (λb g3=>if b=true then aS P elt cq g3 (λy g4=>N (some y) cq g4) E else N none cq g3) je) E
 |.gJ d6 n tg it cond elt,Z,g,Q,E=>gH P it Z g (λk g1=>Cp k (O8 Z d6 n) g1 (λys g=>Q (.ref g.length) (g++[.lst ((q9 ys).map .int)])) λx N Z g=>jK tg x Z λcq=>dw P cond cq g (λb g3=>if b=true then aS P elt cq g3 (λy g4=>∃j,y=.int j/\N (some j) cq g4) je else N none cq g3) je) E
 |.nil,_,_,_,_=>False
 |.cons _ _,_,_,_,_=>False
 |.eR _,_,_,_,_=>False
 |.fF _,_,_,_,_=>False
 |.iW _ _,_,_,_,_=>False
 |.kl _,_,_,_,_=>False
 |.nF _,_,_,_,_=>False
 |.dU _,_,_,_,_=>False
 |.no,_,_,_,_=>False
noncomputable def fe(P:eO):ME->S->G->(List D->G->Prop)->KX->Prop
 |.nil,_,g,Q,_=>Q [] g
 |.cons a b,Z,g,Q,E=>aS P a Z g (λx g1=>fe P b Z g1 (λxs g2=>Q (x::xs) g2) E) E
 |_,_,_,_,_=>False
noncomputable def dw(P:eO):ME->S->G->(Bool->G->Prop)->KX->Prop
 |.dH a b,Z,g,Q,E=>dw P a Z g (λt g1=>if t=true then dw P b Z g1 Q E else Q false g1) E
 |.gC a b,Z,g,Q,E=>dw P a Z g (λt g1=>if t=true then Q true g1 else dw P b Z g1 Q E) E
 |.cV a,Z,g,Q,E=>dw P a Z g (λt g1=>Q (!t) g1) E
 |.no,_,g,Q,_=>Q true g
 |.dU e,Z,g,Q,E=>aS P e Z g (λx g1=>pj g1 x λb=>Q b g1) E
 |_,_,_,_,_=>False
noncomputable def gH(P:eO):ME->S->G->(IK->G->Prop)->KX->Prop
 |.eR e,Z,g,R,E=>aS P e Z g (λx g1=>(∃l,x=.tup l/\R (.fix l) g1)\/∃a l,x=.ref a/\d7 g1 a=some l/\R (.lst a) g1) E
 |.fF a,Z,g,R,E=>aS P a Z g (λx g1=>∃j:Int,x=.int j/\-(2 ^ 62)<=j/\j<2 ^ 62/\R (.fix (A4 0 j.toNat)) g1) E
 |.iW a b,Z,g,R,E=>aS P a Z g (λx g1=>aS P b Z g1 (λy g2=>∃i j:Int,x=.int i/\y=.int j/\(-(2 ^ 62)<=i/\i<2 ^ 62/\-(2 ^ 62)<=j/\j<2 ^ 62)/\R (.fix (A4 i (j-i).toNat)) g2) E) E
 |.kl e,Z,g,R,E=>aS P e Z g (λx g1=>∃a l,x=.ref a/\d7 g1 a=some l/\R (.ql a) g1) E
 |.nF e,Z,g,R,E=>aS P e Z g (λx g1=>∃a l,x=.ref a/\d7 g1 a=some l/\R (.vV a l.length) g1) E
 |_,_,_,_,_=>False
end
set_option genInjectivity false in
set_option genSizeOf false in
inductive MS where
 |pass|seq (a b:MS)|expr (e:ME)|set (i:Nat) (e:ME)|lF (t:MT) (e:ME)|cN (o i v:ME)|fT (f:Str) (cs:List Str) (o v:ME)
 |jU (f:Str) (cs:List Str) (o v:ME)|jy (i:Nat) (p:Pr) (v:ME)|vT (o1 i1 o2 i2 e:ME)
 |ifs (c:ME) (a b:MS)|eM (t:MT) (it:ME) (b:MS)|iT (c:ME) (b:MS)|ret (e:ME)|pJ|brk|cont
 |raise (x:Str) (es:ME)|oj (b:MS) (hs:List (Str×ME))
structure Ends where
 nx:S->G->Prop
 rt:KD
 bk:S->G->Prop:=λ_ _=>False
 ct:S->G->Prop:=λ_ _=>False
def mM(P:eO)(N:Ends)(Z:S)(E:KX):List (Str×ME)->KX
 |[],x,g=>E x g
 |(y,e)::r,x,g=>if x.cls=y\/y="MintError" then aS P e Z g N.rt je else mM P N Z E r x g
def wpS(P:eO):MS->Ends->S->G->KX->Prop
 |.pass,N,Z,g,_=>N.nx Z g
 |.seq a b,N,Z,g,E=>wpS P a { N with nx:=λiA g1=>wpS P b N iA g1 E } Z g E
 |.expr e,N,Z,g,E=>aS P e Z g (λ_ g1=>N.nx Z g1) E
 |.set i e,N,Z,g,E=>aS P e Z g (λx g1=>N.nx (Z.set i (some x)) g1) E
 |.lF t e,N,Z,g,E=>aS P e Z g (λx g1=>jK t x Z λiA=>N.nx iA g1) E
 |.cN o i v,N,Z,g,E=>aS P v Z g (λx g1=>aS P o Z g1 (λy g2=>aS P i Z g2 (λz g3=>oi y z x g3 λg4=>N.nx Z g4) E) E) E
 |.fT f cs o v,N,Z,g,E=>aS P v Z g (λx g1=>aS P o Z g1 (λy g2=>uT f cs y x g2 λg3=>N.nx Z g3) E) E
 |.jU f cs o v,N,Z,g,E=>aS P o Z g (λy g1=>∃a c fs x,y=.ref a/\g1[a]?=some (.ins c fs)/\c∈cs/\fs.lookup f=some x/\aS P v Z g1 (λz g3=>cK .iadd [x,z] g3 λw g4=>∃iO,g4[a]?=some (.ins c iO)/\iO.length<100/\N.nx Z (g4.set a (.ins c (x8 f w iO)))) E) E
 |.vT o1 i1 o2 i2 e,N,Z,g,E=>aS P e Z g (λx g1=>∃u v,x=.tup [u,v]/\aS P o1 Z g1 (λy1 g2=>aS P i1 Z g2 (λz1 g3=>oi y1 z1 u g3 λg4=>aS P o2 Z g4 (λy2 g5=>aS P i2 Z g5 (λz2 g6=>oi y2 z2 v g6 λg7=>N.nx Z g7) E) E) E) E) E
 |.jy i p v,N,Z,g,E=>∃x,Z[i]?=some (some x)/\aS P v Z g (λz g1=>cK p [x,z] g1 λw g2=>N.nx (Z.set i (some w)) g2) E
 |.ifs c a b,N,Z,g,E=>dw P c Z g (λt g1=>if t=true then wpS P a N Z g1 E else wpS P b N Z g1 E) E
 |.eM t it b,N,Z,g,E=>gH P it Z g (λk g1=>turns k Z g1 N.nx λx N2 Z g=>jK t x Z λcq=>wpS P b { N with nx:=N2,ct:=N2,bk:=N.nx } cq g E) E
 |.iT c b,N,Z,g,E=>∃W:Nat->S->G->Prop,(∃m,W m Z g)/\∀m Z g,W m Z g->dw P c Z g (λt g1=>if t=true then ∃N2:S->G->Prop,(∀bI g',N2 bI g'->∃m',m'<m/\W m' bI g')/\wpS P b { N with nx:=N2,ct:=N2,bk:=N.nx } Z g1 E else N.nx Z g1) E
 |.ret e,N,Z,g,E=>aS P e Z g N.rt E
 |.pJ,N,_,g,_=>N.rt .bf g
 |.brk,N,Z,g,_=>N.bk Z g
 |.cont,N,Z,g,_=>N.ct Z g
 |.raise x es,_,Z,g,E=>fe P es Z g (λvs g1=>vs.length<=1000/\E ⟨x⟩ g1) E
 |.oj b hs,N,Z,g,E=>wpS P b N Z g (mM P N (Z.map λ_=>none) E hs)
structure aM where
 ar:Nat
 n:Nat
 body:MS
def a9(m:aM)(ds:List D):S:=ds.map some++List.replicate (m.n-ds.length) none
def a8(T:Nat->Option aM):Nat->eO
 |0,_,_,_,_,_=>False
 |k+1,f,ds,g,Q,E=>∃m,T f=some m/\ds.length=m.ar/\wpS (a8 T k) m.body ⟨λ_ g'=>Q .bf g',Q,λ_ _=>False,λ_ _=>False⟩ (a9 m ds) g E
end M
namespace M
open PySem L2
variable{g:G}{K:PySem.W.Frag}{H:Hp}{a p:Addr}{vs:List V}{i:Nat}{o:O}{u:HO}{l:List D}
theorem p8{p xs}{Q Q':KD}(h:∀d g,Q d g->Q' d g)(q:cK p xs g Q):cK p xs g Q':=by
 obtain⟨d,g',a,b⟩:=q;exact⟨d,g',a,h _ _ b⟩
theorem Xh{x}{k k':Bool->Prop}(h:∀b,k b->k' b)(q:pj g x k):pj g x k':=by
 obtain⟨b,a,z⟩:=q;exact⟨b,a,h _ z⟩
theorem X8{x y v}{k k':G->Prop}(h:∀g,k g->k' g)(q:oi x y v g k):oi x y v g k':=by
 obtain⟨b,a,z⟩:=q;exact⟨b,a,h _ z⟩
theorem XW{f cs x v}{k k':G->Prop}(h:∀g,k g->k' g)(q:uT f cs x v g k):uT f cs x v g k':=by
 obtain⟨b,a,z⟩:=q;exact⟨b,a,h _ z⟩
theorem A2{t x Z}{k k':S->Prop}(h:∀Z,k Z->k' Z)(q:jK t x Z k):jK t x Z k':=by
 cases t with
 |one i=>exact h _ q
 |many is=>obtain⟨l,bI,a,b,c⟩:=q;exact⟨l,bI,a,b,h _ c⟩
theorem Yf{k Z g}{fin jT:S->G->Prop}{turn hW:D->(S->G->Prop)->S->G->Prop}(h:∀Z g,fin Z g->jT Z g)(h2:∀x N Z g,turn x N Z g->hW x N Z g)(q:turns k Z g fin turn):turns k Z g jT hW:=by
 obtain⟨W,w0,q⟩:=q;refine⟨W,w0,λi m Z g w=>?_⟩;rcases q i m Z g w with⟨a,b⟩|⟨x,a,N2,b,c⟩
 ·exact .inl ⟨a,h _ _ b⟩
 ·exact .inr ⟨x,a,N2,b,h2 _ _ _ _ c⟩
theorem GU{k Z g}{fin jT:List D->G->Prop}{turn hW:D->(Option D->S->G->Prop)->S->G->Prop}(h:∀ys g,fin ys g->jT ys g)(h2:∀x N Z g,turn x N Z g->hW x N Z g)(q:wL k Z g fin turn):wL k Z g jT hW:=by
 obtain⟨W,w0,q⟩:=q;refine⟨W,w0,λi m ys Z g w=>?_⟩;rcases q i m ys Z g w with⟨a,b⟩|⟨x,a,b,c⟩
 ·exact .inl ⟨a,h _ _ b⟩
 ·exact .inr ⟨x,a,b,h2 _ _ _ _ c⟩
theorem YN{k Z g}{fin jT:List Int->G->Prop}{turn hW:D->(Option Int->S->G->Prop)->S->G->Prop}(h:∀ys g,fin ys g->jT ys g)(h2:∀x N Z g,turn x N Z g->hW x N Z g)(q:Cp k Z g fin turn):Cp k Z g jT hW:=by
 obtain⟨W,w0,q⟩:=q;refine⟨W,w0,λi m ys Z g w=>?_⟩;rcases q i m ys Z g w with⟨a,b,c⟩|⟨x,a,b,c⟩
 ·exact .inl ⟨a,b,h _ _ c⟩
 ·exact .inr ⟨x,a,b,h2 _ _ _ _ c⟩
theorem K3{t:Bool}{A B A' B':Prop}(h1:A->A')(h2:B->B')(q:if t=true then A else B):if t=true then A' else B':=by
 cases t
 ·exact h2 q
 ·exact h1 q
def j5(P:eO):Prop:=∀f xs g Q Q' E E',(∀d g,Q d g->Q' d g)->(∀x g,E x g->E' x g)->P f xs g Q E->P f xs g Q' E'
mutual
theorem b8{P:eO}(hP:j5 P):∀(e:ME) (Z:S) (g:G) (Q Q':KD) (E E':KX),(∀d g,Q d g->Q' d g)->(∀x g,E x g->E' x g)->aS P e Z g Q E->aS P e Z g Q' E'
 |.var i,Z,g,Q,Q',E,E',h,hx,q=>by
  obtain⟨d,a,b⟩:=q;exact⟨d,a,h _ _ b⟩
 |.lit d,Z,g,Q,Q',E,E',h,hx,q=>by exact h _ _ q
 |.prim p es,Z,g,Q,Q',E,E',h,hx,q=>by
  exact v5 hP es _ _ _ _ _ _ (λxs g1 q=>p8 h q) hx q
 |.eL p o es,Z,g,Q,Q',E,E',h,hx,q=>by
  exact b8 hP o _ _ _ _ _ _ (λx g1 q=>⟨q.1,v5 hP es _ _ _ _ _ _ (λxs g2 q=>p8 h q) hx q.2⟩) hx q
 |.ng es,Z,g,Q,Q',E,E',h,hx,q=>by
  exact v5 hP es _ _ _ _ _ _ (λxs g1 ⟨kvs,a,b,c,d⟩=>⟨kvs,a,b,c,h _ _ d⟩) hx q
 |.chain o1 o2 a b c,Z,g,Q,Q',E,E',h,hx,q=>by
  refine b8 hP a _ _ _ _ _ _ (λx g1 q=>b8 hP b _ _ _ _ _ _ (λy g2 q=>p8 (λz g3 q=>?_) q) hx q) hx q;obtain⟨t,e,q⟩:=q;exact⟨t,e,K3 (λq=>b8 hP c _ _ _ _ _ _ (λw g4 q=>p8 h q) hx q) (h _ _) q⟩
 |.dH a b,Z,g,Q,Q',E,E',h,hx,q=>by
  refine b8 hP a _ _ _ _ _ _ (λx g1 q=>?_) hx q;obtain⟨t,e,q⟩:=q;exact⟨t,e,K3 (λq=>b8 hP b _ _ _ _ _ _ h hx q) (h _ _) q⟩
 |.gC a b,Z,g,Q,Q',E,E',h,hx,q=>by
  refine b8 hP a _ _ _ _ _ _ (λx g1 q=>?_) hx q;obtain⟨t,e,q⟩:=q;exact⟨t,e,K3 (h _ _) (λq=>b8 hP b _ _ _ _ _ _ h hx q) q⟩
 |.cV a,Z,g,Q,Q',E,E',h,hx,q=>by
  refine b8 hP a _ _ _ _ _ _ (λx g1 q=>?_) hx q;obtain⟨t,e,q⟩:=q;exact⟨t,e,h _ _ q⟩
 |.ite c a b,Z,g,Q,Q',E,E',h,hx,q=>by
  exact n6 hP c _ _ _ _ _ _ (λt g1 q=>K3 (λq=>b8 hP a _ _ _ _ _ _ h hx q) (λq=>b8 hP b _ _ _ _ _ _ h hx q) q) hx q
 |.call f es,Z,g,Q,Q',E,E',h,hx,q=>by
  exact v5 hP es _ _ _ _ _ _ (λxs g1 q=>hP _ _ _ _ _ _ _ h hx q) hx q
 |.make c f es,Z,g,Q,Q',E,E',h,hx,q=>by
  exact v5 hP es _ _ _ _ _ _ (λxs g1 q=>hP _ _ _ _ _ _ _ (λd g2 q=>⟨q.1,h _ _ q.2⟩) hx q) hx q
 |.bx m cs o es,Z,g,Q,Q',E,E',h,hx,q=>by
  refine b8 hP o _ _ _ _ _ _ (λx g1 q=>?_) hx q;obtain⟨a,c,fs,f,q1,q2,q3,q4,q⟩:=q;exact⟨a,c,fs,f,q1,q2,q3,q4,v5 hP es _ _ _ _ _ _ (λxs g2 q=>hP _ _ _ _ _ _ _ h hx q) hx q⟩
 |.comp d6 n tg it cond elt,Z,g,Q,Q',E,E',h,hx,q=>by
  exact z8 hP it _ _ _ _ _ _ (λk g1 q=>GU (λys g q=>h _ _ q) (λ_ _ _ _ q=>q) q) hx q
 |.jM d6 n tg it cond elt,Z,g,Q,Q',E,E',h,hx,q=>by
  exact z8 hP it _ _ _ _ _ _ (λk g1 q=>GU (λys g q=>h _ _ q) (λx N Z g q=>A2 (λcq q=>n6 hP cond _ _ _ _ _ _ (λb g3 q=>by
   cases b
   ·exact q
   ·exact b8 hP elt _ _ _ _ _ _ (λ_ _ z=>z) hx q) (λ_ _ z=>z) q) q) q) hx q
 |.gJ d6 n tg it cond elt,Z,g,Q,Q',E,E',h,hx,q=>by
  exact z8 hP it _ _ _ _ _ _ (λk g1 q=>YN (λys g q=>h _ _ q) (λ_ _ _ _ q=>q) q) hx q
 |.nil,Z,g,Q,Q',E,E',h,hx,q=>(show False from q).elim
 |.cons _ _,Z,g,Q,Q',E,E',h,hx,q=>(show False from q).elim
 |.eR _,Z,g,Q,Q',E,E',h,hx,q=>(show False from q).elim
 |.fF _,Z,g,Q,Q',E,E',h,hx,q=>(show False from q).elim
 |.iW _ _,Z,g,Q,Q',E,E',h,hx,q=>(show False from q).elim
 |.kl _,Z,g,Q,Q',E,E',h,hx,q|.nF _,Z,g,Q,Q',E,E',h,hx,q=>(show False from q).elim
 |.dU _,Z,g,Q,Q',E,E',h,hx,q=>(show False from q).elim
 |.no,Z,g,Q,Q',E,E',h,hx,q=>(show False from q).elim
theorem v5{P:eO}(hP:j5 P):∀(e:ME) (Z:S) (g:G) (Q Q':List D->G->Prop) (E E':KX),(∀d g,Q d g->Q' d g)->(∀x g,E x g->E' x g)->fe P e Z g Q E->fe P e Z g Q' E'
 |.nil,Z,g,Q,Q',E,E',h,hx,q=>by exact h _ _ q
 |.cons a b,Z,g,Q,Q',E,E',h,hx,q=>by
  exact b8 hP a _ _ _ _ _ _ (λx g1 q=>v5 hP b _ _ _ _ _ _ (λxs g2 q=>h _ _ q) hx q) hx q
 |.var _,Z,g,Q,Q',E,E',h,hx,q|.lit _,Z,g,Q,Q',E,E',h,hx,q|.prim _ _,Z,g,Q,Q',E,E',h,hx,q|.eL _ _ _,Z,g,Q,Q',E,E',h,hx,q|.ng _,Z,g,Q,Q',E,E',h,hx,q|.chain _ _ _ _ _,Z,g,Q,Q',E,E',h,hx,q|.dH _ _,Z,g,Q,Q',E,E',h,hx,q|.gC _ _,Z,g,Q,Q',E,E',h,hx,q|.cV _,Z,g,Q,Q',E,E',h,hx,q|.ite _ _ _,Z,g,Q,Q',E,E',h,hx,q|.call _ _,Z,g,Q,Q',E,E',h,hx,q
 |.make _ _ _,Z,g,Q,Q',E,E',h,hx,q|.bx _ _ _ _,Z,g,Q,Q',E,E',h,hx,q|.comp _ _ _ _ _ _,Z,g,Q,Q',E,E',h,hx,q|.gJ _ _ _ _ _ _,Z,g,Q,Q',E,E',h,hx,q|.jM _ _ _ _ _ _,Z,g,Q,Q',E,E',h,hx,q|.eR _,Z,g,Q,Q',E,E',h,hx,q|.fF _,Z,g,Q,Q',E,E',h,hx,q|.iW _ _,Z,g,Q,Q',E,E',h,hx,q|.kl _,Z,g,Q,Q',E,E',h,hx,q|.nF _,Z,g,Q,Q',E,E',h,hx,q|.dU _,Z,g,Q,Q',E,E',h,hx,q|.no,Z,g,Q,Q',E,E',h,hx,q=>(show False from q).elim
theorem n6{P:eO}(hP:j5 P):∀(e:ME) (Z:S) (g:G) (Q Q':Bool->G->Prop) (E E':KX),(∀d g,Q d g->Q' d g)->(∀x g,E x g->E' x g)->dw P e Z g Q E->dw P e Z g Q' E'
 |.dH a b,Z,g,Q,Q',E,E',h,hx,q=>by
  exact n6 hP a _ _ _ _ _ _ (λt g1 q=>K3 (λq=>n6 hP b _ _ _ _ _ _ h hx q) (h _ _) q) hx q
 |.gC a b,Z,g,Q,Q',E,E',h,hx,q=>by
  exact n6 hP a _ _ _ _ _ _ (λt g1 q=>K3 (h _ _) (λq=>n6 hP b _ _ _ _ _ _ h hx q) q) hx q
 |.cV a,Z,g,Q,Q',E,E',h,hx,q=>by exact n6 hP a _ _ _ _ _ _ (λt g1 q=>h _ _ q) hx q
 |.no,Z,g,Q,Q',E,E',h,hx,q=>by exact h _ _ q
 |.dU e,Z,g,Q,Q',E,E',h,hx,q=>by exact b8 hP e _ _ _ _ _ _ (λx g1 q=>Xh (λb q=>h _ _ q) q) hx q
 |.var _,Z,g,Q,Q',E,E',h,hx,q|.lit _,Z,g,Q,Q',E,E',h,hx,q|.prim _ _,Z,g,Q,Q',E,E',h,hx,q|.eL _ _ _,Z,g,Q,Q',E,E',h,hx,q|.ng _,Z,g,Q,Q',E,E',h,hx,q|.chain _ _ _ _ _,Z,g,Q,Q',E,E',h,hx,q|.ite _ _ _,Z,g,Q,Q',E,E',h,hx,q|.call _ _,Z,g,Q,Q',E,E',h,hx,q|.nil,Z,g,Q,Q',E,E',h,hx,q|.cons _ _,Z,g,Q,Q',E,E',h,hx,q
 |.make _ _ _,Z,g,Q,Q',E,E',h,hx,q|.bx _ _ _ _,Z,g,Q,Q',E,E',h,hx,q|.comp _ _ _ _ _ _,Z,g,Q,Q',E,E',h,hx,q|.gJ _ _ _ _ _ _,Z,g,Q,Q',E,E',h,hx,q|.jM _ _ _ _ _ _,Z,g,Q,Q',E,E',h,hx,q|.eR _,Z,g,Q,Q',E,E',h,hx,q|.fF _,Z,g,Q,Q',E,E',h,hx,q|.iW _ _,Z,g,Q,Q',E,E',h,hx,q|.kl _,Z,g,Q,Q',E,E',h,hx,q|.nF _,Z,g,Q,Q',E,E',h,hx,q=>(show False from q).elim
theorem z8{P:eO}(hP:j5 P):∀(e:ME) (Z:S) (g:G) (Q Q':IK->G->Prop) (E E':KX),(∀d g,Q d g->Q' d g)->(∀x g,E x g->E' x g)->gH P e Z g Q E->gH P e Z g Q' E'
 |.eR e,Z,g,Q,Q',E,E',h,hx,q=>by
  exact b8 hP e _ _ _ _ _ _ (λx g1 q=>q.imp (λ⟨l,a,b⟩=>⟨l,a,h _ _ b⟩) λ⟨i,l,a,b,c⟩=>⟨i,l,a,b,h _ _ c⟩) hx q
 |.fF a,Z,g,Q,Q',E,E',h,hx,q=>by
  exact b8 hP a _ _ _ _ _ _ (λx g1 ⟨j,a,b,c,d⟩=>⟨j,a,b,c,h _ _ d⟩) hx q
 |.iW a b,Z,g,Q,Q',E,E',h,hx,q=>by
  exact b8 hP a _ _ _ _ _ _ (λx g1 q=>b8 hP b _ _ _ _ _ _ (λy g2 ⟨i,j,a,b,c,d⟩=>⟨i,j,a,b,c,h _ _ d⟩) hx q) hx q
 |.kl e,Z,g,Q,Q',E,E',h,hx,q=>by
  exact b8 hP e _ _ _ _ _ _ (λx g1 ⟨i,l,a,b,c⟩=>⟨i,l,a,b,h _ _ c⟩) hx q
 |.nF e,Z,g,Q,Q',E,E',h,hx,q=>by
  exact b8 hP e _ _ _ _ _ _ (λx g1 ⟨i,l,a,b,c⟩=>⟨i,l,a,b,h _ _ c⟩) hx q
 |.var _,Z,g,Q,Q',E,E',h,hx,q|.lit _,Z,g,Q,Q',E,E',h,hx,q|.prim _ _,Z,g,Q,Q',E,E',h,hx,q|.eL _ _ _,Z,g,Q,Q',E,E',h,hx,q|.ng _,Z,g,Q,Q',E,E',h,hx,q|.chain _ _ _ _ _,Z,g,Q,Q',E,E',h,hx,q|.ite _ _ _,Z,g,Q,Q',E,E',h,hx,q|.call _ _,Z,g,Q,Q',E,E',h,hx,q|.nil,Z,g,Q,Q',E,E',h,hx,q|.cons _ _,Z,g,Q,Q',E,E',h,hx,q
 |.dH _ _,Z,g,Q,Q',E,E',h,hx,q|.gC _ _,Z,g,Q,Q',E,E',h,hx,q|.cV _,Z,g,Q,Q',E,E',h,hx,q|.dU _,Z,g,Q,Q',E,E',h,hx,q|.no,Z,g,Q,Q',E,E',h,hx,q
 |.make _ _ _,Z,g,Q,Q',E,E',h,hx,q|.bx _ _ _ _,Z,g,Q,Q',E,E',h,hx,q|.comp _ _ _ _ _ _,Z,g,Q,Q',E,E',h,hx,q|.gJ _ _ _ _ _ _,Z,g,Q,Q',E,E',h,hx,q|.jM _ _ _ _ _ _,Z,g,Q,Q',E,E',h,hx,q=>(show False from q).elim
end
structure Ends.le(N N':Ends):Prop where
 nx:∀Z g,N.nx Z g->N'.nx Z g
 rt:∀d g,N.rt d g->N'.rt d g
 bk:∀Z g,N.bk Z g->N'.bk Z g
 ct:∀Z g,N.ct Z g->N'.ct Z g
theorem IH{P:eO}(hP:j5 P){N N':Ends}{E E':KX}(h:N.le N')(hx:∀x g,E x g->E' x g){Z:S}:∀(hs:List (Str×ME)) x g,mM P N Z E hs x g->mM P N' Z E' hs x g
 |[],x,g,q=>hx x g q
 |(y,e)::r,x,g,q=>by
  unfold mM at q ⊢;split
  ·rename_i hh;rw[aG hh] at q;exact b8 hP e _ _ _ _ _ _ h.rt (λ_ _ z=>z) q
  ·rename_i hh;rw[az hh] at q;exact IH hP h hx r x g q
theorem wpS_mono{P:eO}(hP:j5 P):∀(s:MS) (N N':Ends) (Z:S) (g:G) (E E':KX),N.le N'->(∀x g,E x g->E' x g)->wpS P s N Z g E->wpS P s N' Z g E'
 |.pass,N,N',Z,g,E,E',h,hx,q=>h.nx _ _ q
 |.seq a b,N,N',Z,g,E,E',h,hx,q=>wpS_mono hP a { N with nx:=λiA g1=>wpS P b N iA g1 E } { N' with nx:=λiA g1=>wpS P b N' iA g1 E' } _ _ _ _ ⟨λiA g1 q=>wpS_mono hP b _ _ _ _ _ _ h hx q,h.rt,h.bk,h.ct⟩ hx q
 |.expr e,N,N',Z,g,E,E',h,hx,q=>b8 hP e _ _ _ _ _ _ (λx g1 q=>h.nx _ _ q) hx q
 |.set i e,N,N',Z,g,E,E',h,hx,q=>b8 hP e _ _ _ _ _ _ (λx g1 q=>h.nx _ _ q) hx q
 |.lF t e,N,N',Z,g,E,E',h,hx,q=>b8 hP e _ _ _ _ _ _ (λx g1 q=>A2 (λZ q=>h.nx _ _ q) q) hx q
 |.cN o i v,N,N',Z,g,E,E',h,hx,q=>b8 hP v _ _ _ _ _ _ (λx g1 q=>b8 hP o _ _ _ _ _ _ (λy g2 q=>b8 hP i _ _ _ _ _ _ (λz g3 q=>X8 (λg q=>h.nx _ _ q) q) hx q) hx q) hx q
 |.fT f cs o v,N,N',Z,g,E,E',h,hx,q=>b8 hP v _ _ _ _ _ _ (λx g1 q=>b8 hP o _ _ _ _ _ _ (λy g2 q=>XW (λg q=>h.nx _ _ q) q) hx q) hx q
 | .jU f cs o v,N,N',Z,g,E,E',h,hx,q=>b8 hP o _ _ _ _ _ _ (λy g1 q=>by
   obtain⟨a,c,fs,x,q1,q2,q3,q4,q⟩:=q;exact ⟨a,c,fs,x,q1,q2,q3,q4,b8 hP v _ _ _ _ _ _ (λz g3 q=>p8 (λw g4 q=>by
    obtain⟨iO,k1,k2,k3⟩:=q;exact ⟨iO,k1,k2,h.nx _ _ k3⟩) q) hx q⟩) hx q
 |.vT o1 i1 o2 i2 e,N,N',Z,g,E,E',h,hx,q=>b8 hP e _ _ _ _ _ _ (λx g1 q=>let ⟨u,v,q1,q⟩:=q;⟨u,v,q1,b8 hP o1 _ _ _ _ _ _ (λy g2 q=>b8 hP i1 _ _ _ _ _ _ (λz g3 q=>X8 (λg4 q=>b8 hP o2 _ _ _ _ _ _ (λy g5 q=>b8 hP i2 _ _ _ _ _ _ (λz g6 q=>X8 (λg q=>h.nx _ _ q) q) hx q) hx q) q) hx q) hx q⟩) hx q
 |.jy i p v,N,N',Z,g,E,E',h,hx,q=>let ⟨x,q1,q⟩:=q;⟨x,q1,b8 hP v _ _ _ _ _ _ (λz g1 q=>p8 (λw g2 q=>h.nx _ _ q) q) hx q⟩
 |.ifs c a b,N,N',Z,g,E,E',h,hx,q=>n6 hP c _ _ _ _ _ _ (λt g1 q=>K3 (λq=>wpS_mono hP a _ _ _ _ _ _ h hx q) (λq=>wpS_mono hP b _ _ _ _ _ _ h hx q) q) hx q
 |.eM t it b,N,N',Z,g,E,E',h,hx,q=>z8 hP it _ _ _ _ _ _ (λk g1 q=>Yf h.nx (λx N2 Z g q=>A2 (λcq q=>wpS_mono hP b { N with nx:=N2,ct:=N2,bk:=N.nx } { N' with nx:=N2,ct:=N2,bk:=N'.nx } _ _ _ _ ⟨λ_ _ z=>z,h.rt,h.nx,λ_ _ z=>z⟩ hx q) q) q) hx q
 |.iT c b,N,N',Z,g,E,E',h,hx,q=>by
  obtain⟨W,w0,q⟩:=q;refine⟨W,w0,λm Z g w=>n6 hP c _ _ _ _ _ _ (λt g1 q=>K3 (λq=>?_) (h.nx _ _) q) hx (q m Z g w)⟩;obtain⟨N2,a,q⟩:=q;exact⟨N2,a,wpS_mono hP b { N with nx:=N2,ct:=N2,bk:=N.nx } { N' with nx:=N2,ct:=N2,bk:=N'.nx } _ _ _ _ ⟨λ_ _ z=>z,h.rt,h.nx,λ_ _ z=>z⟩ hx q⟩
 |.ret e,N,N',Z,g,E,E',h,hx,q=>b8 hP e _ _ _ _ _ _ h.rt hx q
 |.pJ,N,N',Z,g,E,E',h,hx,q=>h.rt _ _ q
 |.brk,N,N',Z,g,E,E',h,hx,q=>h.bk _ _ q
 |.cont,N,N',Z,g,E,E',h,hx,q=>h.ct _ _ q
 |.raise x es,N,N',Z,g,E,E',h,hx,q=>v5 hP es _ _ _ _ _ _ (λvs g1 q=>⟨q.1,hx _ _ q.2⟩) hx q
 |.oj b hs,N,N',Z,g,E,E',h,hx,q=>wpS_mono hP b _ _ _ _ _ _ h (λx g q=>IH hP h hx hs x g q) q
theorem b0(T:Nat->Option aM):∀k,j5 (a8 T k)
 |0=>λf xs g Q Q' E E' h hx q=>q.elim
 |k+1=>λf xs g Q Q' E E' h hx q=>by
  obtain⟨m,a,b,q⟩:=q;exact⟨m,a,b,wpS_mono (b0 T k) m.body ⟨λ_ g'=>Q .bf g',Q,λ_ _=>False,λ_ _=>False⟩ _ _ _ _ _ ⟨λ_ _ z=>h _ _ z,h,λ_ _ z=>z,λ_ _ z=>z⟩ hx q⟩
def TupAt(K:PySem.W.Frag)(H:Hp)(a:Addr)(vs:List V):Prop :=
 H a=some (.tup vs)\/∃(o:Obj) (aO:Array Value) (n:Nat),K.lookup a=some o/\o.cls=.type "tuple"/\o.dict=none/\o.data=.seq aO n/\aO.size<=sizeLine/\Vals vs aO.toList
theorem TupAt.d(h:TupAt K H a vs):vo K H a vs:=h
theorem TupAt.sq{K:PySem.W.Frag}{H:Hp}{a:Addr}{vs:List V}(h:TupAt K H a vs):gS K H a vs:=h.d.sq
mutual
inductive f6(K:PySem.W.Frag)(ρ:List Addr)(H:Hp):D->V->Prop
 |bf:f6 K ρ H .bf .bf
 |bl (b:Bool):f6 K ρ H (.bl b) (.bl b)
 |int (i:Int):f6 K ρ H (.int i) (.int i)
 |str (x:Str):f6 K ρ H (.str x) (.str x)
 |ty (n:String):f6 K ρ H (.ty n) (.ty n)
 |ref {i:Nat} {a:Addr} (h:ρ[i]?=some a):f6 K ρ H (.ref i) (.ref a)
 |tup {l:List D} {a:Addr} {vs:List V} (h:TupAt K H a vs) (r:b6 K ρ H l vs):f6 K ρ H (.tup l) (.ref a)
inductive b6(K:PySem.W.Frag)(ρ:List Addr)(H:Hp):List D->List V->Prop
 |nil:b6 K ρ H [] []
 |cons {d:D} {v:V} {ds:List D} {vs:List V} (h:f6 K ρ H d v) (r:b6 K ρ H ds vs):b6 K ρ H (d::ds) (v::vs)
end
structure Ext(ρ:List Addr)(H:Hp)(bB:List Addr)(H':Hp):Prop where
 pre:∃more,bB=ρ++more
 tup:∀a xs,H a=some (.tup xs)->H' a=some (.tup xs)
theorem Ext.refl(ρ:List Addr)(H:Hp):Ext ρ H ρ H:=⟨⟨[],by simp⟩,λ_ _ h=>h⟩
theorem Ext.trans{ρ H bH H1 eA H2}(a:Ext ρ H bH H1)(b:Ext bH H1 eA H2):Ext ρ H eA H2:=by
 obtain⟨⟨m,rfl⟩,t⟩:=a;obtain⟨⟨m',rfl⟩,t'⟩:=b;exact⟨⟨m++m',by simp⟩,λx xs h=>t' _ _ (t _ _ h)⟩
theorem Ext.get{ρ H bB H'}(e:Ext ρ H bB H')(h:ρ[i]?=some a):bB[i]?=some a:=by
 obtain⟨⟨m,rfl⟩,_⟩:=e;rw[aH (aD.mp h).1];exact h
theorem TupAt.ext{K ρ H bB H'}(e:Ext ρ H bB H')(h:TupAt K H a vs):TupAt K H' a vs:=h.elim (λz=>.inl (e.tup _ _ z)) .inr
mutual
theorem f6.ext{K ρ H bB H'}(e:Ext ρ H bB H'):∀{d v},f6 K ρ H d v->f6 K bB H' d v
 |_,_,.bf=>.bf
 |_,_,.bl b=>.bl b
 |_,_,.int i=>.int i
 |_,_,.str x=>.str x
 |_,_,.ty n=>.ty n
 |_,_,.ref h=>.ref (e.get h)
 |_,_,.tup h r=>.tup (h.ext e) (b6.ext e r)
theorem b6.ext{K ρ H bB H'}(e:Ext ρ H bB H'):∀{ds vs},b6 K ρ H ds vs->b6 K bB H' ds vs
 |_,_,.nil=>.nil
 |_,_,.cons h r=>.cons (f6.ext e h) (b6.ext e r)
end
theorem b6.length{K ρ H}{ds:List D}{vs:List V}(h:b6 K ρ H ds vs):ds.length=vs.length:=by
 induction ds generalizing vs with
 |nil=>cases h;rfl
 |cons d ds ih =>
  cases h with
  |cons q r=>simp[ih r]
theorem b6.get{K ρ H}:∀{ds vs} {i:Nat} {d:D},b6 K ρ H ds vs->ds[i]?=some d->∃v,vs[i]?=some v/\f6 K ρ H d v
 |_,_,_,_,.nil,h=>by simp at h
 |_,_,0,_,.cons h _,e=>by simp at e;subst e;exact⟨_,rfl,h⟩
 |_,_,i+1,d,.cons _ r,e=>by
  obtain⟨v,h1,h2⟩:=b6.get (i:=i) (d:=d) r (by simpa using e);exact⟨v,by simpa using h1,h2⟩
theorem b6.set{K ρ H}{d:D}{v:V}(h:f6 K ρ H d v):∀{ds vs} (i:Nat),b6 K ρ H ds vs->b6 K ρ H (ds.set i d) (vs.set i v)
 |_,_,_,.nil=>.nil
 |_,_,0,.cons _ r=>.cons h r
 |_,_,i+1,.cons q r=>.cons q (b6.set h i r)
theorem b6.append{K ρ H}{ds es:List D}{ws:List V}(h:b6 K ρ H ds vs)(s:b6 K ρ H es ws):b6 K ρ H (ds++es) (vs++ws):=by
 induction ds generalizing vs with
 |nil=>cases h;exact s
 |cons d ds ih =>
  cases h with
  |cons q r=>exact .cons q (ih r)
theorem b6.rep{K ρ H}{ds:List D}{vs:List V}(r:b6 K ρ H ds vs):∀n,b6 K ρ H (List.replicate n ds).flatten (List.replicate n vs).flatten
 |0=>.nil
 |n+1=>by
  rw[bU,bU,cZ,cZ];exact b6.append r (b6.rep r n)
theorem b6.erase{K ρ H}:∀{ds:List D} {vs:List V} (i:Nat),b6 K ρ H ds vs->b6 K ρ H (ds.eraseIdx i) (vs.eraseIdx i)
 |_,_,_,.nil=>.nil
 |_,_,0,.cons _ r=>r
 |_,_,i+1,.cons q r=>.cons q (b6.erase i r)
theorem b6.take{K ρ H}:∀{ds:List D} {vs:List V} (n:Nat),b6 K ρ H ds vs->b6 K ρ H (ds.take n) (vs.take n)
 |_,_,0,_=>.nil
 |_,_,_+1,.nil=>.nil
 |_,_,n+1,.cons h r=>.cons h (b6.take n r)
theorem b6.drop{K ρ H}:∀{ds:List D} {vs:List V} (n:Nat),b6 K ρ H ds vs->b6 K ρ H (ds.drop n) (vs.drop n)
 |_,_,0,r=>r
 |_,_,_+1,.nil=>.nil
 |_,_,n+1,.cons _ r=>b6.drop n r
theorem b6.reverse{K ρ H}:∀{ds:List D} {vs:List V},b6 K ρ H ds vs->b6 K ρ H ds.reverse vs.reverse
 |_,_,.nil=>.nil
 |_,_,.cons h r=>by
  rw[gA,gA];exact b6.append (b6.reverse r) (.cons h .nil)
theorem b6.cut{K ρ H}{ds:List D}{vs:List V}(r:b6 K ρ H ds vs)(lo hi:Option Int):b6 K ρ H (M.cut ds lo hi) (X3 vs lo hi):=by
 unfold M.cut X3;rw[r.length];exact(r.drop _).take _
theorem b6.ints{K ρ H}:∀{ns:List Int} {vs:List V},b6 K ρ H (ns.map D.int) vs->vs=ns.map V.int
 |[],_,.nil=>rfl
 |_::_,_,.cons h r=>by cases h;rw[b6.ints r];rfl
theorem b6.ofInts{K ρ H}:∀(ns:List Int),b6 K ρ H (ns.map D.int) (ns.map V.int)
 |[]=>.nil
 |n::r=>.cons (.int n) (b6.ofInts r)
def rV(K:PySem.W.Frag)(H:Hp)(a:Addr)(vs:List V):Prop :=
 (∃o,H a=some (.jt o (.lst vs)))\/∃(o:Obj) (aO:Array Value) (n:Nat),K.lookup a=some o/\o.cls=.type "list"/\o.dict=none/\o.data=.seq aO n/\aO.size<=sizeLine/\Vals vs aO.toList
theorem rV.sq(h:rV K H a vs):ft K H a vs:=h.elim (λ⟨o,z⟩=>.inl (.inr ⟨o,z⟩)) .inr
inductive i7{α:Type}(K:PySem.W.Frag)(ρ:List Addr)(H:Hp):List (α×D)->List (α×V)->Prop
 |nil:i7 K ρ H [] []
 |cons {k:α} {d:D} {v:V} {ds:List (α×D)} {vs:List (α×V)} (h:f6 K ρ H d v) (r:i7 K ρ H ds vs):i7 K ρ H ((k,d)::ds) ((k,v)::vs)
theorem i7.ext{α:Type}{K ρ H bB H'}(e:Ext ρ H bB H'){ds:List (α×D)}{vs:List (α×V)}(h:i7 K ρ H ds vs):i7 K bB H' ds vs:=by
 induction h with
 |nil=>exact .nil
 |cons h r ih=>exact .cons (h.ext e) ih
theorem i7.drop{K ρ H}{ds:List (Key×D)}{vs:List (Key×V)}(k:Key)(h:i7 K ρ H ds vs):i7 K ρ H (delD ds k) (qJ vs k):=by
 unfold delD qJ
 induction h with
 |nil=>exact .nil
 |cons h r ih =>
  rw[dt,dt];split
  ·exact .cons h ih
  ·exact ih
theorem i7.get{α:Type}{K ρ H}{ds:List (α×D)}{vs:List (α×V)}(h:i7 K ρ H ds vs):∀{i:Nat} {k:α} {d:D},ds[i]?=some (k,d)->∃v,vs[i]?=some (k,v)/\f6 K ρ H d v:=by
 induction h with
 |nil=>intro i k d e;simp at e
 |cons h r ih =>
  intro i k d e;cases i with
  |zero=>simp at e;obtain⟨rfl,rfl⟩:=e;exact⟨_,rfl,h⟩
  |succ i=>simpa using ih (by simpa using e)
theorem i7.length{α:Type}{K ρ H}{ds:List (α×D)}{vs:List (α×V)}(h:i7 K ρ H ds vs):ds.length=vs.length:=by
 induction h with
 |nil=>rfl
 |cons h r ih=>simp[ih]
def qG(K:PySem.W.Frag)(ρ:List Addr)(H:Hp):Option D->Option V->Prop
 |some d,some v=>f6 K ρ H d v
 |none,none=>True
 |_,_=>False
theorem i7.val{K ρ H}:∀{ds vs} (k:Key),i7 K ρ H ds vs->qG K ρ H (I9 ds k) (N4 vs k)
 |_,_,k,.nil=>trivial
 |_,_,k,.cons (k:=k') h r=>by
  unfold I9 N4;rw[iw,iw];by_cases e:k'=k
  ·simp only[e,decide_true];exact h
  ·simp only[e,decide_false];exact i7.val k r
theorem i7.EF{K ρ H}:∀{ds vs} (k:Key),i7 K ρ H ds vs->(ds.any λkv=>decide (kv.1=k))=(vs.any λkv=>decide (kv.1=k))
 |_,_,k,.nil=>rfl
 |_,_,k,.cons h r=>by simp only[List.any_cons,i7.EF k r]
theorem i7.snoc{K ρ H}{k:Key}{d:D}{v:V}(h:f6 K ρ H d v){ds vs}(t:i7 K ρ H ds vs):i7 K ρ H (ds++[(k,d)]) (vs++[(k,v)]):=by
 induction ds generalizing vs with
 |nil=>cases t;exact .cons h .nil
 |cons d ds ih =>
  cases t with
  |cons q r=>exact .cons q (ih r)
theorem i7.Ck{K ρ H}{k:Key}{d:D}{v:V}(h:f6 K ρ H d v):∀{ds vs},i7 K ρ H ds vs->i7 K ρ H (ds.map λkv=>if kv.1=k then(kv.1,d) else kv) (vs.map λkv=>if kv.1=k then(kv.1,v) else kv)
 |_,_,.nil=>.nil
 |_,_,.cons (k:=k') q r=>by
  simp only[List.map_cons];by_cases e:k'=k
  ·rw[aG e,aG e];exact .cons h (i7.Ck h r)
  ·rw[az e,az e];exact .cons q (i7.Ck h r)
theorem i7.put{K ρ H}{k:Key}{d:D}{v:V}(h:f6 K ρ H d v){ds vs}(r:i7 K ρ H ds vs):i7 K ρ H (putD ds k d) (putK vs k v):=by
 unfold putD putK;rw[r.EF k];split
 ·exact r.Ck h
 ·exact r.snoc h
noncomputable abbrev p7(K:PySem.W.Frag)(x:Str)(C:Addr):Prop:=PySem.W.nsIn K mainGlobals x=some (some (.ref C))
theorem i7.look{K ρ H}{ds:List (Str×D)}{vs:List (Str×V)}(f:Str)(h:i7 K ρ H ds vs):qG K ρ H (ds.lookup f) (vs.lookup f):=by
 induction h with
 |nil=>trivial
 |cons h r ih =>
  rename_i k d v ds vs;rw[cz,cz];cases f==k
  ·exact ih
  ·exact h
theorem i7.u4{K ρ H}{f:Str}{d:D}{v:V}(h:f6 K ρ H d v){ds:List (Str×D)}{vs:List (Str×V)}(r:i7 K ρ H ds vs):i7 K ρ H (x8 f d ds) (L2.u4 f v vs):=by
 induction r with
 |nil=>exact .cons h .nil
 |cons q r ih =>
  unfold x8 L2.u4;split
  ·exact .cons h r
  ·exact .cons q ih
theorem BB{f:Str}{d:D}{p:Str->Prop}(hf:p f):∀{ds:List (Str×D)},(∀x∈ds,p x.1)->∀x∈x8 f d ds,p x.1
 |[],_,x,hx=>by
  have:x=(f,d):=by simpa[x8] using hx
  rw[this];exact hf
 |(k,e)::r,h,x,hx=>by
  unfold x8 at hx;split at hx
  ·rcases ay.mp hx with z|z
   ·rw[z];exact h (k,e) (by simp)
   ·exact h x (by simp[z])
  ·rcases ay.mp hx with z|z
   ·rw[z];exact h (k,e) (by simp)
   ·exact BB hf (λy hy=>h y (by simp[hy])) x z
def OH(K:PySem.W.Frag)(ρ:List Addr)(H:Hp):O->HO->Prop
 |.lst l,.lst vs=>b6 K ρ H l vs
 |.bO kvs,.dK vs=>i7 K ρ H kvs vs
 |.set S n,.set S' n'=>S=S'/\n=n'
 |.ins c fs,.ins C _ vs=>p7 K c C/\iQ K C/\i7 K ρ H fs vs/\∀x∈fs,w9 K C x.1
 |_,_=>False
theorem OH.ext{K ρ H bB H'}(e:Ext ρ H bB H'){o:O}{u:HO}(h:OH K ρ H o u):OH K bB H' o u:=by
 cases o<;>cases u<;>first|exact h.elim|exact b6.ext e h|exact i7.ext e h|exact⟨h.1,h.2.1,h.2.2.1.ext e,h.2.2.2⟩|exact h
theorem OH.sf{K ρ H}{xs:List V}(h:OH K ρ H o (.tup xs)):False:=by cases o<;>exact h
theorem OH.Tv{K ρ H}{ob:Obj}(h:OH K ρ H o (.jt ob u)):False:=by cases o<;>exact h
def M0(K:PySem.W.Frag)(ρ:List Addr)(H:Hp)(o:O)(a:Addr):Prop:=match o with
 |.nR l=>∃vs,rV K H a vs/\b6 K ρ H l vs
 |o=>∃u,H a=some u/\OH K ρ H o u
theorem M0.of{K ρ H}(hu:H a=some u)(h:OH K ρ H o u):M0 K ρ H o a:=by
 cases o<;>first|exact⟨u,hu,h⟩|(cases u<;>exact h.elim)
theorem M0.inv{K ρ H}(m:o.mut=true)(h:M0 K ρ H o a):∃u,H a=some u/\OH K ρ H o u:=by
 cases o<;>first|exact h|cases m
theorem M0.lst{K ρ H}{l:List D}{a:Addr}(h:M0 K ρ H (.lst l) a):∃vs,H a=some (.lst vs)/\b6 K ρ H l vs:=by
 obtain⟨u,h1,h2⟩:=h;cases u<;>first|exact⟨_,h1,h2⟩|exact h2.elim
theorem M0.bO{K ρ H}{l:List (Key×D)}{a:Addr}(h:M0 K ρ H (.bO l) a):∃vs,H a=some (.dK vs)/\i7 K ρ H l vs:=by
 obtain⟨u,h1,h2⟩:=h;cases u<;>first|exact⟨_,h1,h2⟩|exact h2.elim
theorem M0.set{K ρ H}{S:Int->Bool}{n:Nat}{a:Addr}(h:M0 K ρ H (.set S n) a):H a=some (.set S n):=by
 obtain⟨u,h1,h2⟩:=h;cases u<;>first|(obtain⟨rfl,rfl⟩:=(show _/\_ from h2);exact h1)|exact h2.elim
theorem M0.ins{K ρ H}{c:Str}{fs:List (Str×D)}{a:Addr}(h:M0 K ρ H (.ins c fs) a):∃C dx vs,H a=some (.ins C dx vs)/\p7 K c C/\iQ K C/\i7 K ρ H fs vs/\∀x∈fs,w9 K C x.1:=by
 obtain⟨u,h1,h2⟩:=h;cases u<;>first|exact⟨_,_,_,h1,h2⟩|exact h2.elim
structure Rl(K:PySem.W.Frag)(ρ:List Addr)(g:G)(H:Hp):Prop where
 len:ρ.length=g.length
 obj:∀(i:Nat) o a,g[i]?=some o->ρ[i]?=some a->M0 K ρ H o a
 nd:∀(i j:Nat) o o' a,g[i]?=some o->g[j]?=some o'->o.mut=true->o'.mut=true->ρ[i]?=some a->ρ[j]?=some a->i=j
section
variable{ρ:List Addr}
theorem Rl.lst(R:Rl K ρ g H){i:Nat}{l:List D}{a:Addr}(h:g[i]?=some (.lst l))(ha:ρ[i]?=some a):∃vs,H a=some (.lst vs)/\b6 K ρ H l vs:=(R.obj _ _ _ h ha).lst
theorem Rl.bO(R:Rl K ρ g H){i:Nat}{l:List (Key×D)}{a:Addr}(h:g[i]?=some (.bO l))(ha:ρ[i]?=some a):∃vs,H a=some (.dK vs)/\i7 K ρ H l vs:=(R.obj _ _ _ h ha).bO
theorem Rl.set(R:Rl K ρ g H){i:Nat}{S:Int->Bool}{n:Nat}{a:Addr}(h:g[i]?=some (.set S n))(ha:ρ[i]?=some a):H a=some (.set S n):=(R.obj _ _ _ h ha).set
theorem Rl.ins(R:Rl K ρ g H){i:Nat}{c:Str}{fs:List (Str×D)}{a:Addr}(h:g[i]?=some (.ins c fs))(ha:ρ[i]?=some a):∃C dx vs,H a=some (.ins C dx vs)/\p7 K c C/\iQ K C/\i7 K ρ H fs vs/\∀x∈fs,w9 K C x.1:=(R.obj _ _ _ h ha).ins
theorem Rl.items(R:Rl K ρ g H)(h:d7 g i=some l)(ha:ρ[i]?=some a):∃vs,ft K H a vs/\b6 K ρ H l vs:=by
 cases e:g[i]? with
 |none=>rw[d7,e] at h;cases h
 |some o =>
  rw[d7,e] at h;have q:=R.obj _ _ _ e ha;cases o with
  |lst m=>cases h;obtain⟨vs,z,r⟩:=q.lst;exact⟨vs,ft.of z,r⟩
  |nR m=>cases h;obtain⟨vs,z,r⟩:=q;exact⟨vs,z.sq,r⟩
  |_=>cases h
theorem u7{o:HO}(hp:H p=none):Ext ρ H ρ (upd H p o):=⟨⟨[],by simp⟩,λa xs h=>by rw[d0 (i0 h hp)];exact h⟩
theorem rV.upd{p a:Addr}{o:HO}{vs:List V}(h:rV K H a vs)(hp:∀ob u,H p≠some (.jt ob u)):rV K (upd H p o) a vs:=by
 rcases h with⟨ob,z⟩|z
 ·refine .inl ⟨ob,?_⟩;rw[d0 ?_]
  ·exact z
  ·intro e;subst e;exact hp _ _ z
 ·exact .inr z
theorem M0.upd{p a:Addr}{o:O}{u:HO}{bB:List Addr}(h:M0 K ρ H o a)(fk:o.mut=true->a≠p)(hp:∀ob u,H p≠some (.jt ob u))(e:Ext ρ H bB (L2.upd H p u)):M0 K bB (L2.upd H p u) o a:=by
 cases hm:o.mut with
 |true =>
  obtain⟨u',h1,h2⟩:=h.inv hm;exact .of (by rw[d0 (fk hm)];exact h1) (h2.ext e)
 |false =>
  cases o<;>first|cases hm|skip
  obtain⟨vs,z,r⟩:=h;exact⟨vs,z.upd hp,r.ext e⟩
theorem Rl.grow{o:HO}(R:Rl K ρ g H)(hp:H p=none):Rl K ρ g (upd H p o):=by
 have e:Ext ρ H ρ (upd H p o):=u7 hp;refine⟨R.len,λi ob a h1 h2=>?_,R.nd⟩;have q:=R.obj _ _ _ h1 h2;refine q.upd (λhm=>?_) (λob u z=>by rw[hp] at z;cases z) e;obtain⟨u,h1,_⟩:=q.inv hm;exact i0 h1 hp
theorem Rl.t4(R:Rl K ρ g H)(p:Addr):(ρ++[p])[g.length]?=some p:=by rw[<- R.len];simp
theorem A6{o:HO}(hp:H p=none):Ext ρ H (ρ++[p]) (upd H p o):=⟨⟨[p],rfl⟩,(u7 (ρ:=ρ) hp).tup⟩
theorem Rl.new(R:Rl K ρ g H)(hp:H p=none)(r:OH K ρ H o u):Rl K (ρ++[p]) (g++[o]) (upd H p u):=by
 have e:Ext ρ H (ρ++[p]) (upd H p u):=A6 hp;have old:∀{i:Nat} {ob:O} {a:Addr},g[i]?=some ob->(ρ++[p])[i]?=some a->ρ[i]?=some a:=λ{i ob a} h1 h2=>by
  rw[aH (by rw[R.len];exact(aD.mp h1).1)] at h2;exact h2
 have split:∀{i:Nat} {ob:O},(g++[o])[i]?=some ob->g[i]?=some ob\/(i=g.length/\ob=o):=λ{i ob} h=>by
  rcases kc i g.length with q|q|q
  ·rw[aH q] at h;exact .inl h
  ·subst q;simp at h;exact .inr ⟨rfl,h.symm⟩
  ·rw[dJ (by simp;omega)] at h;cases h
 refine⟨by simp[R.len],λi ob a h1 h2=>?_,λi j o1 o2 a h1 h2 m1 m2 h3 h4=>?_⟩
 ·rcases split h1 with q|⟨rfl,rfl⟩
  ·have z:=R.obj _ _ _ q (old q h2);refine z.upd (λhm=>?_) (λob u z=>by rw[hp] at z;cases z) e;obtain⟨u,h1,_⟩:=z.inv hm;exact i0 h1 hp
  ·rw[R.t4] at h2;cases h2;exact .of j6 (r.ext e)
 ·have nq:∀{i:Nat} {o:O} {a:Addr},g[i]?=some o->o.mut=true->ρ[i]?=some a->a≠p:=λ{i o a} h1 hm h2=>by
   obtain⟨u,z,_⟩:=(R.obj _ _ _ h1 h2).inv hm;exact i0 z hp
  rcases split h1 with q|⟨rfl,_⟩
  ·rcases split h2 with q'|⟨rfl,_⟩
   ·exact R.nd _ _ _ _ _ q q' m1 m2 (old q h3) (old q' h4)
   ·rw[R.t4] at h4;cases h4;exact absurd rfl (nq q m1 (old q h3))
  ·rcases split h2 with q'|⟨rfl,_⟩
   ·rw[R.t4] at h3;cases h3;exact absurd rfl (nq q' m2 (old q' h4))
   ·rfl
theorem Rl.sup{H':Hp}(R:Rl K ρ g H)(e:∀b u,H b=some u->H' b=some u):Rl K ρ g H':=by
 have x:Ext ρ H ρ H':=⟨⟨[],by simp⟩,λb xs h=>e _ _ h⟩
 refine⟨R.len,λi o a h1 h2=>?_,R.nd⟩;have q:=R.obj _ _ _ h1 h2;cases hm:o.mut with
 |true =>
  obtain⟨u,z1,z2⟩:=q.inv hm;exact .of (e _ _ z1) (z2.ext x)
 |false =>
  cases o<;>first|cases hm|skip
  obtain⟨vs,z,r⟩:=q;exact⟨vs,z.imp (λ⟨o,z⟩=>⟨o,e _ _ z⟩) id,r.ext x⟩
theorem Rl.alloc(R:Rl K ρ g H)(hp:H p=none)(r:b6 K ρ H l vs):Rl K (ρ++[p]) (g++[.lst l]) (upd H p (.lst vs)):=R.new hp r
theorem Rl.put{o':O}(R:Rl K ρ g H)(h:g[i]?=some o)(hm:o.mut=true)(ha:ρ[i]?=some a)(r:OH K ρ H o' u) :
  Rl K ρ (g.set i o') (upd H a u)/\Ext ρ H ρ (upd H a u):=by
 obtain⟨u0,z0,Du⟩:=(R.obj _ _ _ h ha).inv hm;have e:Ext ρ H ρ (upd H a u):=⟨⟨[],by simp⟩,λb xs q=>by rw[d0];exact q;intro z;subst z;rw[z0] at q;cases q;exact Du.sf⟩
 refine⟨⟨by simp[R.len],λj ob b h1 h2=>?_,λj k o1 o2 b h1 h2 m1 m2 h3 h4=>?_⟩,e⟩
 ·by_cases iN:i=j
  ·subst iN;rw[ha] at h2;cases h2;have hi:i<g.length:=(aD.mp h).1;rw[aY hi] at h1;cases h1;exact .of j6 (r.ext e)
  ·rw[aR iN] at h1;refine(R.obj _ _ _ h1 h2).upd (λlg ez=>?_) (λob u z=>by rw[z0] at z;cases z;exact Du.Tv) e;subst ez;exact iN (R.nd _ _ _ _ _ h h1 hm lg ha h2)
 ·have back:∀{j:Nat} {m:O},(g.set i o')[j]?=some m->m.mut=true->∃m',g[j]?=some m'/\m'.mut=true:=λ{j m} q lg=>by
   by_cases iN:i=j
   ·subst iN;exact⟨o,h,hm⟩
   ·rw[aR iN] at q;exact⟨m,q,lg⟩
  obtain⟨_,q1,n1⟩:=back h1 m1;obtain⟨_,q2,n2⟩:=back h2 m2;exact R.nd _ _ _ _ _ q1 q2 n1 n2 h3 h4
theorem Rl.write{l':List D}(R:Rl K ρ g H)(h:g[i]?=some (.lst l))(ha:ρ[i]?=some a)(r:b6 K ρ H l' vs) :
  Rl K ρ (g.set i (.lst l')) (upd H a (.lst vs))/\Ext ρ H ρ (upd H a (.lst vs)):=R.put h rfl ha r
end
structure m9(K:PySem.W.Frag)(ρ:List Addr)(H:Hp)(Z:S)(bN:St):Prop where
 len:Z.length=bN.length
 val:∀(i:Nat) d,Z[i]?=some (some d)->∃v,bN[i]?=some (some v)/\f6 K ρ H d v
section
variable{ρ bB:List Addr}{H':Hp}
theorem m9.ext{Z bN}(e:Ext ρ H bB H')(r:m9 K ρ H Z bN):m9 K bB H' Z bN:=⟨r.len,λi d h=>let ⟨v,a,b⟩:=r.val i d h;⟨v,a,b.ext e⟩⟩
theorem m9.set{Z bN d v}(r:m9 K ρ H Z bN)(i:Nat)(h:f6 K ρ H d v):m9 K ρ H (Z.set i (some d)) (bN.set i (some v)):=by
 refine⟨by simp[r.len],λj e q=>?_⟩;by_cases iN:i=j
 ·subst iN;have hi:i<Z.length:=by
   have:=(aD.mp q).1;simpa using this
  rw[aY hi] at q;cases q;exact⟨v,by rw[aY (by rw[<- r.len];exact hi)],h⟩
 ·rw[aR iN] at q ⊢;exact r.val j e q
theorem m9.start{ds vs}{n:Nat}(r:b6 K ρ H ds vs):m9 K ρ H (ds.map some++List.replicate (n-ds.length) none) (vs.map some++List.replicate (n-vs.length) none):=by
 refine⟨by simp[r.length],λi d h=>?_⟩;by_cases hi:i<ds.length
 ·rw[aH (by simpa using hi),aB] at h;cases e:ds[i]? with
  |none=>rw[e] at h;cases h
  |some x =>
   rw[e] at h;cases h;obtain⟨v,h1,h2⟩:=r.get e;refine⟨v,?_,h2⟩;rw[aH (by rw[ao,<- r.length];exact hi),aB,h1]
   rfl
 ·rw[cP (by simpa using hi),dq] at h;split at h<;>cases h
theorem m9.d6{Z bN}(r:m9 K ρ H Z bN)(d6:List Nat)(n:Nat):m9 K ρ H (O8 Z d6 n) (u5 bN d6 n):=by
 refine⟨by simp[O8,u5],λi d h=>?_⟩;unfold O8 at h;unfold u5;by_cases hi:i<d6.length
 ·rw[aH (by simpa using hi),aB,aC hi] at h;rw[aH (by simpa using hi),aB,aC hi];simp only[Option.map_some] at h ⊢;cases e:Z[d6[i]]? with
  |none=>rw[e] at h;cases h
  |some x =>
   rw[e] at h;have hx:x=some d:=aF h;subst hx;obtain⟨v,h1,h2⟩:=r.val _ _ e;exact⟨v,by rw[h1];rfl,h2⟩
 ·rw[cP (by simpa using hi),dq] at h;split at h<;>cases h
end
end M
namespace M
open PySem L2 PySem.Spec PyProof.Rows
variable{g:G}{l:List D}{vs:List V}{b:Bool}{d:D}{X:Cx}{ρ:List Addr}{H:Hp}{Z:L2.St}{s:Shared}{v x:V}
def LQ(K:PySem.W.Frag)(ρ:List Addr)(H:Hp)(Q:VK):KD:=λd g'=>∀bB H' v,Ext ρ H bB H'->Rl K bB g' H'->f6 K bB H' d v->Q v H'
theorem LQ.ext{K ρ H bH H1 Q d g}(e:Ext ρ H bH H1)(h:LQ K ρ H Q d g):LQ K bH H1 Q d g:=λbB H' v e' R r=>h bB H' v (e.trans e') R r
theorem LQ.now{K ρ H Q d g v}(h:LQ K ρ H Q d g)(R:Rl K ρ g H)(r:f6 K ρ H d v):Q v H:=h ρ H v (.refl _ _) R r
theorem LQ.new{K ρ H Q}{p:Addr}(h:LQ K ρ H Q (.ref g.length) (g++[.lst l]))(R:Rl K ρ g H)(hp:H p=none)(r:b6 K ρ H l vs):Q (.ref p) (upd H p (.lst vs)) :=
 h (ρ++[p]) _ _ (A6 hp) (R.alloc hp r) (.ref (R.t4 p))
theorem LQ.tup{K ρ H Q}{g:G}{l:List D}{vs:List V}{p:Addr}(h:LQ K ρ H Q (.tup l) g)(R:Rl K ρ g H)(hp:H p=none)(r:b6 K ρ H l vs):Q (.ref p) (upd H p (.tup vs)) :=
 h ρ _ _ (u7 hp) (R.grow hp) (.tup (.inl j6) (r.ext (u7 hp)))
def r2(K:PySem.W.Frag)(p:Pr):R2:=λx y H Q=>∃d e g ρ,Rl K ρ g H/\f6 K ρ H d x/\f6 K ρ H e y/\cK p [d,e] g (LQ K ρ H Q)
def r1(K:PySem.W.Frag)(p:Pr):V->Hp->VK->Prop:=λx H Q=>∃d g ρ,Rl K ρ g H/\f6 K ρ H d x/\cK p [d] g (LQ K ρ H Q)
def rN(K:PySem.W.Frag)(p:Pr):List V->Hp->VK->Prop:=λxs H Q=>∃ds g ρ,Rl K ρ g H/\b6 K ρ H ds xs/\cK p ds g (LQ K ρ H Q)
theorem m5{n:Nat}(h:n<=100000):n<=sizeLine:=aJ h (by decide)
theorem AJ{n:Nat}(h:n<100000):n<sizeLine:=ak h (by decide)
theorem f6.j7{K ρ H i v}(h:f6 K ρ H (.int i) v):v=.int i:=by cases h;rfl
theorem f6.F4{K ρ H i v}(h:f6 K ρ H (.str i) v):v=.str i:=by cases h;rfl
theorem f6.O9{K ρ H i v}(h:f6 K ρ H (.bl i) v):v=.bl i:=by cases h;rfl
theorem f6.wI{K ρ H v}(h:f6 K ρ H .bf v):v=.bf:=by cases h;rfl
theorem f6.UA{K ρ H n v}(h:f6 K ρ H (.ty n) v):v=.ty n:=by cases h;rfl
theorem f6.j4{K ρ H i v}(h:f6 K ρ H (.ref i) v):∃a,v=.ref a/\ρ[i]?=some a:=by cases h;exact⟨_,rfl,by assumption⟩
theorem f6.E3{K ρ H l v}(h:f6 K ρ H (.tup l) v):∃a vs,v=.ref a/\TupAt K H a vs/\b6 K ρ H l vs:=by cases h;exact⟨_,_,rfl,by assumption,by assumption⟩
theorem b6.one{K ρ H d vs}(h:b6 K ρ H [d] vs):∃v,vs=[v]/\f6 K ρ H d v:=by
 cases h with
 |cons r rr=>cases rr;exact⟨_,rfl,r⟩
theorem b6.two{K ρ H d e vs}(h:b6 K ρ H [d,e] vs):∃v w,vs=[v,w]/\f6 K ρ H d v/\f6 K ρ H e w:=by
 cases h with
 |cons r rr=>obtain⟨w,rfl,q⟩:=rr.one;exact⟨_,_,rfl,r,q⟩
theorem t8{a b c:D}(h:[a,b]=[c,d]):a=c/\b=d:=by cases h;exact⟨rfl,rfl⟩
section
theorem Vt(op:Operator):fu X (binaryOp op) (r2 X.K (.bin op)):=by
 intro pins s Z H x y v u Q I rx ry h;obtain⟨d,e,g,ρ,R,rd,re,d',g',h,q⟩:=h;rcases h with⟨i,j,r,ex,ha,rfl,rfl⟩|⟨rfl,h⟩|⟨rfl,h⟩
 ·obtain⟨rfl,rfl⟩:=t8 ex;obtain rfl:=rd.j7;obtain rfl:=re.j7;have fin:=q.now R (.int r);cases op<;>first|exact(show False from ha).elim|skip
  ·cases ha;exact Vr pins s Z H _ _ v u Q I rx ry ⟨i,j,rfl,rfl,fin⟩
  ·cases ha;exact VB pins s Z H _ _ v u Q I rx ry ⟨i,j,rfl,rfl,fin⟩
  ·obtain⟨hc,rfl⟩:=ha;exact Vx pins s Z H _ _ v u Q I rx ry ⟨i,j,rfl,rfl,hc,fin⟩
  ·obtain⟨hc,rfl⟩:=ha;exact Vw pins s Z H _ _ v u Q I rx ry ⟨i,j,rfl,rfl,hc,fin⟩
  ·obtain⟨hc,rfl⟩:=ha;exact Vy pins s Z H _ _ v u Q I rx ry ⟨i,j,rfl,rfl,hc,fin⟩
  ·obtain⟨hc,rfl⟩:=ha;exact VA pins s Z H _ _ v u Q I rx ry ⟨i,j,rfl,rfl,hc,fin⟩
  ·cases ha;exact TF pins s Z H _ _ v u Q I rx ry ⟨i,j,rfl,rfl,fin⟩
  ·cases ha;exact Vs pins s Z H _ _ v u Q I rx ry ⟨i,j,rfl,rfl,fin⟩
  ·obtain⟨hc,rfl⟩:=ha;exact NT pins s Z H _ _ v u Q I rx ry ⟨i,j,rfl,rfl,hc,fin⟩
 ·rcases h with⟨l,m,ex,hz,rfl,rfl⟩|⟨a,b,l,m,ex,ha,hb,hz,rfl,rfl⟩|⟨x',y',ex,hz,rfl,rfl⟩
  ·obtain⟨rfl,rfl⟩:=t8 ex;obtain⟨a,vs,rfl,ta,rs⟩:=rd.E3;obtain⟨b,ws,rfl,tb,rt⟩:=re.E3;refine Qq pins s Z H _ _ v u Q I rx ry ⟨a,b,vs,ws,rfl,rfl,ta.sq,tb.sq,?_,λz=>?_,λz=>?_,λp hp=>q.tup R hp (rs.append rt)⟩
   ·rw[<- rs.length,<- rt.length];exact m5 hz
   ·subst z;cases rs;exact q.now R (.tup tb rt)
   ·subst z;cases rt;rw[fJ] at q;exact q.now R (.tup ta rs)
  ·obtain⟨rfl,rfl⟩:=t8 ex;obtain⟨a',rfl,ra⟩:=rd.j4;obtain⟨b',rfl,rb⟩:=re.j4;obtain⟨vs,z1,rs⟩:=R.lst ha ra;obtain⟨ws,z2,rt⟩:=R.lst hb rb;exact Vu pins s Z H _ _ v u Q I rx ry ⟨_,_,vs,ws,rfl,rfl,z1,z2,by rw[<- rs.length,<- rt.length];exact m5 hz,λp hp=>q.new R hp (rs.append rt)⟩
  ·obtain⟨rfl,rfl⟩:=t8 ex;obtain rfl:=rd.F4;obtain rfl:=re.F4;exact XQ pins s Z H _ _ v u Q I rx ry ⟨_,_,rfl,rfl,m5 hz,q.now R (.str _)⟩
 ·rcases h with⟨a,l,n,ex,ha,h1,h2,hz,rfl,rfl⟩|⟨l,n,ex,fk,h1,h2,hz,rfl,rfl⟩
  rotate_left
  ·obtain⟨rfl,rfl⟩:=t8 ex;obtain⟨a',vs,rfl,ta,rs⟩:=rd.E3;obtain rfl:=re.j7;refine NV pins s Z H _ _ v u Q I rx ry ⟨_,_,vs,rfl,rfl,ta.sq,λz=>?_,h1,h2,by rw[<- rs.length];exact m5 hz,λz=>?_,λp hp=>q.tup R hp (rs.rep _)⟩
   ·subst z;cases rs;exact fk rfl
   ·subst z;have:(List.replicate (Int.toNat 1) l).flatten=l:=by simp
    rw[this] at q;exact q.now R (.tup ta rs)
  obtain⟨rfl,rfl⟩:=t8 ex;obtain⟨a',rfl,ra⟩:=rd.j4;obtain rfl:=re.j7;obtain⟨vs,z1,rs⟩:=R.lst ha ra;exact Vz pins s Z H _ _ v u Q I rx ry ⟨_,_,vs,rfl,rfl,z1,by omega,by omega,by rw[<- rs.length];exact m5 hz,λp hp=>q.new R hp (rs.rep _)⟩
theorem TH(op:UnaryOp):xR X (unaryOp op) (r1 X.K (.un op)):=by
 intro pins s Z H x v Q I rx h;obtain⟨d,g,ρ,R,rd,d',g',⟨rfl,i,ex,rfl,rfl⟩,q⟩:=h;cases ex;obtain rfl:=rd.j7;exact MR pins s Z H _ v Q I rx ⟨_,rfl,q.now R (.int _)⟩
section
variable{pins:List (Addr×Obj)}
theorem GS(I:Inv X pins Z H s)(R:Rl X.K ρ g H)(n:Nat)(ih:∀{d:D} {v:V} {u:Value} {p:PyData},rd g n d=some p->f6 X.K ρ H d v->RelV v u->∃as,Reads s.heap u p as/\p.depth<=n):∀{vs:List V} {us:List Value} {ps:List PyData},l.mapM (rd g n)=some ps->b6 X.K ρ H l vs->Vals vs us->∃as,ReadsAll s.heap us ps as/\PyData.depthAll ps<=n:=by
 induction l with
 |nil =>
  intro vs us ps h rs rv;cases rs;cases rv;simp at h;subst h;exact⟨_,.nil,bX _⟩
 |cons d l il =>
  intro vs us ps h rs rv;cases rs with
  |cons hZ rs =>
   cases rv with
   |cons ru rv =>
    rw[List.mapM_cons] at h;cases e:rd g n d with
    |none=>rw[e] at h;cases h
    |some p =>
     rw[e] at h;cases e2:l.mapM (rd g n) with
     |none=>rw[e2] at h;cases h
     |some qs =>
      rw[e2] at h;cases h;obtain⟨as,q1,d1⟩:=ih e hZ ru;obtain⟨bs,q2,d2⟩:=il e2 rs rv;refine⟨_,.cons q1 q2,?_⟩;simp only[PyData.depthAll];omega
theorem V0(I:Inv X pins Z H s)(R:Rl X.K ρ g H)(n:Nat):∀{d:D} {v:V} {u:Value} {p:PyData},rd g n d=some p->f6 X.K ρ H d v->RelV v u->∃as,Reads s.heap u p as/\p.depth<=n:=by
 induction n with
 |zero =>
  intro d v u p h r ru;cases r with
  |bf=>simp only[rd] at h;cases h;cases ru;exact⟨_,.none,Nat.zero_le _⟩
  |bl b=>simp only[rd] at h;cases h;cases ru;exact⟨_,.bool b,Nat.zero_le _⟩
  |int i=>simp only[rd] at h;cases h;obtain⟨t,rfl⟩:=ru;exact⟨_,.int i t,Nat.zero_le _⟩
  |str x=>simp only[rd] at h;cases h;obtain⟨t,rfl⟩:=ru;exact⟨_,.str x t,Nat.zero_le _⟩
  |_=>simp only[rd] at h;cases h
 |succ n ih =>
  intro d v u p h r ru;cases r with
  |bf=>simp only[rd] at h;cases h;cases ru;exact⟨_,.none,Nat.zero_le _⟩
  |bl b=>simp only[rd] at h;cases h;cases ru;exact⟨_,.bool b,Nat.zero_le _⟩
  |int i=>simp only[rd] at h;cases h;obtain⟨t,rfl⟩:=ru;exact⟨_,.int i t,Nat.zero_le _⟩
  |str x=>simp only[rd] at h;cases h;obtain⟨t,rfl⟩:=ru;exact⟨_,.str x t,Nat.zero_le _⟩
  |ty x=>simp only[rd] at h;cases h
  |ref ha =>
   rename_i i a;simp only[rd] at h;cases e:d7 g i with
   |none=>rw[e] at h;cases h
   |some l =>
    rw[e] at h;dsimp only at h;cases e2:l.mapM (rd g n) with
    |none=>rw[e2] at h;cases h
    |some ps =>
     rw[e2] at h;cases h;cases ru;obtain⟨vs,hq,rs⟩:=R.items e ha;obtain⟨aO,rv,p,hz⟩:=I.list hq;obtain⟨as,q,hd⟩:=GS I R n ih e2 rs rv;obtain⟨o,ho,hc,k,pZ⟩:=p.isList;refine⟨_,.list ho hc pZ (by simpa using q),?_⟩;simp only[PyData.depth];omega
  |tup ht rs =>
   rename_i l a vs;simp only[rd] at h;cases e2:l.mapM (rd g n) with
   |none=>rw[e2] at h;cases h
   |some ps =>
    rw[e2] at h;cases h;cases ru;obtain⟨aO,rv,pt,hz⟩:=I.tuple ht.sq;obtain⟨as,q,hd⟩:=GS I R n ih e2 rs rv;obtain⟨o,ho,hc,k,pZ⟩:=id pt;refine⟨_,.tuple ho hc pZ (by simpa using q),?_⟩;simp only[PyData.depth];omega
end
end
theorem wR{α:Type}[BEq α][LawfulBEq α][DecidableEq α](a b:α):decide (a=b)=(a==b):=by
 by_cases e:a=b
 ·subst e;simp
 ·rw[ax e];exact(dh.mpr e).symm
theorem P9{K ρ H}{c:Key}(h:W0 d=some c)(r:f6 K ρ H d v):v=kV c:=by
 cases r<;>first|(cases h;rfl)|cases h
theorem qG.some{K ρ H}{o:Option V}{d:D}(h:qG K ρ H (some d) o):∃v,o=some v/\f6 K ρ H d v:=by
 cases o with
 |none=>exact h.elim
 |some v=>exact⟨v,rfl,h⟩
theorem qG.isSome{K ρ H}{o:Option V}{d:Option D}(h:qG K ρ H d o):d.isSome=o.isSome:=by
 cases o<;>cases d<;>first|rfl|exact h.elim
theorem EO{pins:List (Addr×Obj)}{e:D}{y:V}{v u:Value}{Q:VK}(hu:X.A.units+100<cLine)(I:Inv X pins Z H s)(rx:RelV x v)(ry:RelV y u)(R:Rl X.K ρ g H)(hZ:f6 X.K ρ H d x)(re:f6 X.K ρ H e y)(h:uz g d e b)(neg:Bool)(q:Q (.bl (xor neg b)) H):wpAny (model X.prog X.w) X.A (compareOp (if neg then .NotEq else .Eq) v u) (EP X pins Z Q) X.xe s:=by
 rcases h with⟨i,j,rfl,rfl,rfl⟩|⟨i,j,rfl,rfl,rfl⟩|⟨i,j,rfl,rfl,rfl⟩|⟨p,p',h1,h2,c1,c2,rfl⟩
 ·obtain rfl:=hZ.j7;obtain rfl:=re.j7;cases neg
  ·exact BS pins s Z H _ _ v u Q I rx ry ⟨rfl,by rw[wU];simpa[wR] using q⟩
  ·exact BU pins s Z H _ _ v u Q I rx ry ⟨rfl,by rw[wU];simpa[wR] using q⟩
 ·obtain rfl:=hZ.O9;obtain rfl:=re.O9;cases neg
  ·exact BS pins s Z H _ _ v u Q I rx ry ⟨rfl,by rw[wF];simpa using q⟩
  ·exact BU pins s Z H _ _ v u Q I rx ry ⟨rfl,by rw[wF];simpa using q⟩
 ·obtain rfl:=hZ.F4;obtain rfl:=re.F4;cases neg
  ·exact BS pins s Z H _ _ v u Q I rx ry ⟨rfl,by rw[wV];simpa[wR] using q⟩
  ·exact BU pins s Z H _ _ v u Q I rx ry ⟨rfl,by rw[wV];simpa[wR] using q⟩
 ·obtain⟨as,q1,d1⟩:=V0 I R 6 h1 hZ rx;obtain⟨bs,q2,d2⟩:=V0 I R 6 h2 re ry;have hr:X.A.units+min p.depth p'.depth<cLine:=by omega
  cases neg
  ·exact SeqAt.compareEq_reads q1 q2 c1 c2 hr ⟨.bl _,H,I,rfl,by simpa using q⟩
  ·exact SeqAt.compareNe_reads q1 q2 c1 c2 hr ⟨.bl _,H,I,rfl,by simpa using q⟩
theorem in_of{pins:List (Addr×Obj)}{e:D}{y:V}{v u:Value}{Q:VK}(hu:X.A.units+100<cLine)(I:Inv X pins Z H s)(rx:RelV x v)(ry:RelV y u)(R:Rl X.K ρ g H)(hZ:f6 X.K ρ H d x)(re:f6 X.K ρ H e y)(h:inR g d e b)(neg:Bool)(q:Q (.bl (xor neg b)) H):wpAny (model X.prog X.w) X.A (compareOp (if neg then .NotIn else .In) v u) (EP X pins Z Q) X.xe s:=by
 rcases h with⟨a,kvs,c,rfl,ha,hc,rfl⟩|⟨l,ps,p,h0,h1,h2,c1,c2,rfl⟩
 ·obtain⟨a',rfl,ra⟩:=re.j4;obtain⟨vs,z,rs⟩:=R.bO ha ra;have:=P9 hc hZ;subst this;cases ry;rw[(rs.val c).isSome] at q;cases neg
  ·exact QJ (by omega) I (Z9.k z) rx λs' I'=>⟨.bl _,H,I',rfl,by simpa using q⟩
  ·exact Nk (by omega) I (Z9.k z) rx λs' I'=>⟨.bl _,H,I',rfl,by simpa using q⟩
 ·obtain⟨as,q1,d1⟩:=V0 I R 6 h2 hZ rx;cases e with
  |tup m =>
   cases h0;have h3:rd g 7 (.tup l)=some (.tuple ps):=by simp only[rd];rw[show l.mapM (rd g 6)=some ps from h1];rfl
   obtain⟨bs,q2,d2⟩:=V0 I R 7 h3 re ry;have hr:X.A.units+1+min (PyData.depthAll ps) p.depth<cLine:=by omega
   cases neg
   ·exact SeqAt.in_tuple_reads q2 q1 c1 c2 hr ⟨.bl _,H,I,rfl,by simpa using q⟩
   ·exact SeqAt.notIn_tuple_reads q2 q1 c1 c2 hr ⟨.bl _,H,I,rfl,by simpa using q⟩
  |ref a =>
   have h3:rd g 7 (.ref a)=some (.list ps):=by
    simp only[rd];rw[show d7 g a=some l from h0];dsimp only;rw[show l.mapM (rd g 6)=some ps from h1]
    rfl
   obtain⟨bs,q2,d2⟩:=V0 I R 7 h3 re ry;have hr:X.A.units+1+min (PyData.depthAll ps) p.depth<cLine:=by omega
   cases neg
   ·exact SeqAt.in_list_reads q2 q1 c1 c2 hr ⟨.bl _,H,I,rfl,by simpa using q⟩
   ·exact SeqAt.notIn_list_reads q2 q1 c1 c2 hr ⟨.bl _,H,I,rfl,by simpa using q⟩
  |_=>cases h0
theorem sv(hu:X.A.units+100<cLine)(op:CmpOp):fu X (compareOp op) (r2 X.K (.cmp op)):=by
 intro pins s Z H x y v u Q I rx ry h;obtain⟨d,e,g,ρ,R,hZ,re,d',g',⟨x',y',b,ex,h,rfl,rfl⟩,q⟩:=h;obtain⟨rfl,rfl⟩:=t8 ex;have fin:=q.now R (.bl b);have nH:∀{P:Int->Int->Bool},(∃i j,d=.int i/\e=.int j/\b=P i j)->∃i j,x=.int i/\y=.int j/\b=P i j:=λhh=>by
  obtain⟨i,j,z1,z2,z3⟩:=hh;exact⟨i,j,(z1▸hZ).j7,(z2▸re).j7,z3⟩
 cases op
 ·exact EO hu I rx ry R hZ re h false (by simpa using fin)
 ·exact EO hu I rx ry R hZ re h true (by simpa using fin)
 ·obtain⟨i,j,e1,e2,e3⟩:=nH (P:=λi j=>decide (i<j)) h;exact TB pins s Z H _ _ v u Q I rx ry ⟨i,j,e1,e2,by subst e3;exact fin⟩
 ·obtain⟨i,j,e1,e2,e3⟩:=nH (P:=λi j=>decide (i<=j)) h;exact Tz pins s Z H _ _ v u Q I rx ry ⟨i,j,e1,e2,by subst e3;exact fin⟩
 ·obtain⟨i,j,e1,e2,e3⟩:=nH (P:=λi j=>decide (j<i)) h;exact Tx pins s Z H _ _ v u Q I rx ry ⟨i,j,e1,e2,by subst e3;exact fin⟩
 ·obtain⟨i,j,e1,e2,e3⟩:=nH (P:=λi j=>decide (j<=i)) h;exact Tw pins s Z H _ _ v u Q I rx ry ⟨i,j,e1,e2,by subst e3;exact fin⟩
 ·obtain⟨rfl,rfl⟩:=(show _/\_ from h)
  obtain rfl:=re.wI;refine Vv pins s Z H _ _ v u Q I rx ry ⟨rfl,?_⟩;have e:qK d=decide (x=V.bf):=by cases hZ<;>simp[qK]
  rw[<- e];exact fin
 ·obtain⟨rfl,rfl⟩:=(show _/\_ from h)
  obtain rfl:=re.wI;refine NU pins s Z H _ _ v u Q I rx ry ⟨rfl,?_⟩;have e:qK d=decide (x=V.bf):=by cases hZ<;>simp[qK]
  rw[<- e];exact fin
 ·rcases h with h|⟨a,S,n,i,rfl,ha,rfl,rfl⟩
  ·exact in_of hu I rx ry R hZ re h false (by simpa using fin)
  ·obtain⟨a',rfl,ra⟩:=re.j4;obtain rfl:=hZ.j7;exact a10 pins s Z H _ _ v u Q I rx ry ⟨i,a',S,n,rfl,rfl,R.set ha ra,fin⟩
 ·rcases h with h|⟨a,S,n,i,rfl,ha,rfl,hb⟩
  ·exact in_of hu I rx ry R hZ re h true (by simpa using fin)
  ·obtain⟨a',rfl,ra⟩:=re.j4;obtain rfl:=hZ.j7;exact Ze pins s Z H _ _ v u Q I rx ry ⟨i,a',S,n,rfl,rfl,R.set ha ra,by rw[<- hb,sI];exact fin⟩
theorem empty_eq{K ρ H}(r:b6 K ρ H l vs):l.isEmpty=vs.isEmpty:=by cases r<;>rfl
theorem MN{K:PySem.W.Frag}(R:Rl K ρ g H)(r:f6 K ρ H d x)(h:EA g d b):As K x H b:=by
 rcases h with⟨rfl,rfl⟩|rfl|⟨i,rfl,rfl⟩|⟨l,rfl,rfl⟩|⟨a,l,rfl,hl,rfl⟩
 ·obtain rfl:=r.wI;rfl
 ·obtain rfl:=r.O9;rfl
 ·obtain rfl:=r.j7;rfl
 ·obtain⟨a,vs,rfl,ht,rs⟩:=r.E3;exact .inr (.inl ⟨_,ht.sq,by rw[empty_eq rs]⟩)
 ·obtain⟨a',rfl,ha⟩:=r.j4;obtain⟨vs,hq,rs⟩:=R.items hl ha;exact .inl ⟨_,hq,by rw[empty_eq rs]⟩
theorem Nc{K ρ H}{i:Int}(r:b6 K ρ H l vs)(h:iY l i=some d):∃v,iY vs i=some v/\f6 K ρ H d v:=by
 unfold iY at h ⊢;rw[<- r.length];cases e:mR l.length i with
 |none=>rw[e] at h;cases h
 |some j =>
  rw[e] at h;exact r.get h
theorem vd{K ρ H}{x:D}(R:Rl K ρ g H)(r:f6 K ρ H x v)(h:F7 g x=some l):∃a vs,v=.ref a/\b6 K ρ H l vs/\((∃i,x=.ref i/\ρ[i]?=some a)/\ft K H a vs\/x=.tup l/\TupAt K H a vs):=by
 cases r with
 |tup ht rs=>cases h;exact⟨_,_,rfl,rs,.inr ⟨rfl,ht⟩⟩
 |ref ha=>obtain⟨vs,hq,rs⟩:=R.items h ha;exact⟨_,_,rfl,rs,.inl ⟨⟨_,rfl,ha⟩,hq⟩⟩
 |_=>cases h
theorem Td(hu:X.A.units+100<cLine):qS X (r2 X.K .ix):=by
 intro value slice pins s Z H x y v u Q I rx ry h hs;obtain⟨d,e,g,ρ,R,hZ,re,d',g',⟨rfl,h⟩,q⟩:=h;rcases h with⟨x',l,i,ex,hl,ha⟩|⟨a,kvs,y',c,ex,ha,hc,hv⟩|⟨x',i,c,ex,h0,h1,rfl⟩
 ·obtain⟨rfl,rfl⟩:=t8 ex;obtain rfl:=re.j7;obtain⟨a,vs,rfl,rs,h⟩:=vd R hZ hl;obtain⟨w,hw,eW⟩:=Nc rs ha;rcases h with⟨_,hq⟩|⟨_,ht⟩
  ·exact Nz value slice pins s Z H _ _ v u Q I rx ry ⟨_,_,i,w,rfl,rfl,hq,hw,q.now R eW⟩ hs
  ·exact Vb value slice pins s Z H _ _ v u Q I rx ry ⟨_,_,i,w,rfl,rfl,ht.sq,hw,q.now R eW⟩ hs
 ·obtain⟨rfl,rfl⟩:=t8 ex;obtain⟨a',rfl,ra⟩:=hZ.j4;obtain⟨vs,z,rs⟩:=R.bO ha ra;have:=P9 hc re;subst this;have q2:=rs.val c;rw[hv] at q2;obtain⟨w,hw,eW⟩:=q2.some;exact Ny (by omega) value slice pins s Z H _ _ v u Q I rx ry ⟨_,w,rfl,by have:=Z9.k (k:=c) z;rw[hw] at this;exact this,q.now R eW⟩ hs
 ·obtain⟨rfl,rfl⟩:=t8 ex;obtain rfl:=hZ.F4;obtain rfl:=re.j7;exact Va value slice pins s Z H _ _ v u Q I rx ry ⟨x',i,c,rfl,rfl,m5 h0,h1,q.now R (.str _)⟩ hs
def JF(K:PySem.W.Frag):V->Option Int->Option Int->Hp->VK->Prop:=λx lo hi H Q=>∃d g ρ d' g',Rl K ρ g H/\f6 K ρ H d x/\sQ d lo hi g d' g'/\LQ K ρ H Q d' g'
theorem BW:vA X (JF X.K):=by
 intro pins s Z H x v vl vu lo hi sl Q I rx hs pl pu h;obtain⟨d,g,ρ,d',g',R,hZ,h,q⟩:=h;rcases h with⟨l,rfl,rfl,rfl⟩|⟨a,l,rfl,hl,rfl,rfl⟩
 ·obtain⟨a,vs,rfl,ht,rs⟩:=hZ.E3;refine OT pins s Z H _ v vl vu lo hi sl Q I rx hs pl pu ⟨_,_,rfl,ht.sq,λz=>?_,λp hp=>q.tup R hp (rs.cut lo hi)⟩;refine q.now R (.tup ht ?_);have:=rs.cut lo hi;rw[z] at this;exact this
 ·obtain⟨a',rfl,ha⟩:=hZ.j4;obtain⟨vs,hq,rs⟩:=R.items hl ha;exact OS pins s Z H _ v vl vu lo hi sl Q I rx hs pl pu ⟨_,_,rfl,hq,λp hp=>q.new R hp (rs.cut lo hi)⟩
def RA(K:PySem.W.Frag):V->V->V->Hp->(Hp->Prop)->Prop:=λo i v H Q=>∃Af di dv g ρ,Rl K ρ g H/\f6 K ρ H Af o/\f6 K ρ H di i/\f6 K ρ H dv v/\oi Af di dv g (λg'=>∀bB H',Ext ρ H bB H'->Rl K bB g' H'->Q H')
theorem Mj(hu:X.A.units+100<cLine):Aq X (RA X.K):=by
 intro pins s Z H o i v ov iv u Q I ro ri rv h;obtain⟨Af,di,dv,g,ρ,R,r1,r2,r3,g',h,q⟩:=h;rcases h with⟨a,i',l,j,rfl,rfl,hl,hj,rfl⟩|⟨a,kvs,c,rfl,ha,hc,hz,rfl⟩
 ·obtain⟨a',rfl,ha⟩:=r1.j4;obtain rfl:=r2.j7;obtain⟨vs,z,rs⟩:=R.lst hl ha;obtain⟨R',e'⟩:=R.write hl ha (rs.set r3 j);exact set_list pins s Z H _ _ _ ov iv u Q I ro ri rv ⟨_,vs,_,j,rfl,rfl,z,by rw[<- rs.length];exact hj,q ρ _ e' R'⟩
 ·obtain⟨a',rfl,ra⟩:=r1.j4;obtain⟨vs,z,rs⟩:=R.bO ha ra;have:=P9 hc r2;subst this;obtain⟨R',e'⟩:=R.put (o':=.bO (putD kvs c dv)) (u:=.dK (putK vs c v)) ha rfl ra (rs.put r3);cases ro;exact a44 (by omega) I (xp.k z (by rw[<- rs.length];exact AJ hz)) ri rv λs' I'=>⟨_,I',q ρ _ e' R'⟩
theorem Vi:m7 X (.builtin "len") (rN X.K .len):=by
 intro pins s Z H xs us Q I r h;obtain⟨ds,g,ρ,R,rs,d',g',⟨rfl,h⟩,q⟩:=h;rcases h with⟨x,l,rfl,hl,rfl⟩|⟨a,kvs,rfl,ha,rfl⟩|⟨x,rfl,hz,rfl⟩
 ·obtain⟨v,rfl,rv⟩:=rs.one;obtain⟨a,vs,rfl,rl,h⟩:=vd R rv hl;refine YR pins s Z H _ us Q I r ⟨_,_,rfl,?_,by rw[<- rl.length];exact q.now R (.int _)⟩;exact h.imp (λz=>z.2) (λz=>z.2.sq)
 ·obtain⟨v,rfl,rv⟩:=rs.one;obtain⟨a',rfl,ra⟩:=rv.j4;obtain⟨vs,z,rk⟩:=R.bO ha ra;exact a49 pins s Z H _ us Q I r ⟨_,_,rfl,z,by rw[<- rk.length];exact q.now R (.int _)⟩
 ·obtain⟨v,rfl,rv⟩:=rs.one;obtain rfl:=rv.F4;exact YS pins s Z H _ us Q I r ⟨_,rfl,m5 hz,q.now R (.int _)⟩
theorem AX{K ρ H}:∀(ks:List Key),b6 K ρ H (ks.map kD) (ks.map kV)
 |[]=>.nil
 |.inl _::r=>.cons (.int _) (AX r)
 |.inr _::r=>.cons (.str _) (AX r)
theorem i7.keys{α:Type}{K ρ H}{ds:List (α×D)}{vs:List (α×V)}(h:i7 K ρ H ds vs):ds.map (·.1)=vs.map (·.1):=by
 induction h with
 |nil=>rfl
 |cons _ _ ih=>rw[bc,bc,ih]
theorem NG(hc:X.calm=true):m7 X (.type "list") (rN X.K .list):=by
 intro pins s Z H xs us Q I r h;obtain⟨ds,g,ρ,R,rs,d',g',⟨x,l,rfl,hl,rfl,rfl⟩|⟨a,kvs,rfl,ha,hn,rfl,rfl⟩,q⟩:=h
 rotate_left
 ·obtain⟨v,rfl,rv⟩:=rs.one;obtain⟨a',rfl,ra⟩:=rv.j4;obtain⟨vs,z,rk⟩:=R.bO ha ra;exact WD hc pins s Z H _ us Q I r ⟨_,vs,rfl,z,by rw[<- rk.length];exact hn,λp hp=>q (ρ++[p]) _ _ (A6 hp) (R.new hp (o:=.lst ((kvs.map (·.1)).map kD)) (u:=.lst ((vs.map (·.1)).map kV)) (by rw[rk.keys];exact AX _)) (.ref (R.t4 p))⟩
 obtain⟨v,rfl,rv⟩:=rs.one;obtain⟨a,vs,rfl,rl,h⟩:=vd R rv hl;exact YT pins s Z H _ us Q I r ⟨_,_,rfl,h.imp (λz=>z.2) (λz=>z.2.sq),λp hp=>q.new R hp rl⟩
theorem ZU:m7 X (.type "tuple") (rN X.K .tuple):=by
 intro pins s Z H xs us Q I r h;obtain⟨ds,g,ρ,R,rs,d',g',⟨x,l,rfl,hl,rfl,rfl⟩,q⟩:=h;obtain⟨v,rfl,rv⟩:=rs.one;obtain⟨a,vs,rfl,rl,h⟩:=vd R rv hl;refine Zl pins s Z H _ us Q I r ⟨a,vs,rfl,?_⟩;exact h.imp (λz=>⟨z.2,λp hp=>q.tup R hp rl⟩) (λz=>⟨z.2.sq,q.now R (.tup z.2 rl)⟩)
theorem Nx:m7 X (.builtin "isinstance") (rN X.K .isin):=by
 intro pins s Z H xs us Q I r h;obtain⟨ds,g,ρ,R,rs,d',g',⟨x,c,b,rfl,hc,hb,rfl,rfl⟩,q⟩:=h;obtain⟨v,w,rfl,r1,r2⟩:=rs.two;obtain rfl:=r2.UA;have fin:=q.now R (.bl b);have go:∀(t:Value) (v:V),gM X.K H v t->PySem.W.kitOne X.K t (.type c)=some b->Vals [v,V.ty c] us->wpAny (model X.prog X.w) X.A (call (.builtin "isinstance") us) (EP X pins Z Q) X.xe s :=
  λt v ht hk r=>Yk pins s Z H _ us Q I r ⟨v,t,c,b,rfl,ht,hk,fin⟩
 simp only[List.mem_cons,List.mem_nil_iff,or_false] at hc;cases r1 with
 |bf=>refine go _ _ .bf ?_ r;cases hb;rcases hc with rfl|rfl|rfl|rfl|rfl<;>rfl
 |bl y=>refine go _ _ (.bl y) ?_ r;cases hb;rcases hc with rfl|rfl|rfl|rfl|rfl<;>rfl
 |int y=>refine go _ _ (.int y) ?_ r;cases hb;rcases hc with rfl|rfl|rfl|rfl|rfl<;>rfl
 |str y=>refine go _ _ (.str y) ?_ r;cases hb;rcases hc with rfl|rfl|rfl|rfl|rfl<;>rfl
 |ty _=>cases hb
 |tup ht rs =>
  cases hb;rcases ht with ht|ht
  ·refine go _ _ (.tup ht) ?_ r;rcases hc with rfl|rfl|rfl|rfl|rfl<;>rfl
  ·obtain⟨o,aO,n,lk,iq,_⟩:=ht;obtain⟨u,w',rfl,ru,eW⟩:=vals2 r;cases (show w'=Value.type c from eW);cases ru;have hk:PySem.W.kitOne X.K (.type "tuple") (.type c)=some (c=="tuple"):=by rcases hc with rfl|rfl|rfl|rfl|rfl<;>rfl
   exact bT Jk I.fU ⟨o,I.fU _ _ lk,iq⟩ hk (λz=>nomatch z) λtk=>⟨.bl _,H,I.tok tk,rfl,fin⟩
 |@ref i a ha =>
  have Lb:∃m,g'[i]?=some (.lst m)/\b=(c=="list"):=by
   simp only[qx] at hb;split at hb
   ·exact⟨_,by assumption,(aF hb).symm⟩
   ·cases hb
  obtain⟨m,e,rfl⟩:=Lb;obtain⟨vs,z,_⟩:=R.lst e ha;refine go _ _ (.lst z) ?_ r;rcases hc with rfl|rfl|rfl|rfl|rfl<;>rfl
theorem Xo:∀{l:List D} {b:Bool},Y9 l=some b->∃bs:List Bool,l=bs.map D.bl/\b=bs.all id:=by
 intro l
 induction l with
 |nil=>intro b h;cases h;exact⟨[],rfl,rfl⟩
 |cons d r ih =>
  intro b h;cases d<;>first|(cases h;done)|skip
  rename_i c;simp only[Y9] at h;cases e:Y9 r with
  |none=>rw[e] at h;cases h
  |some b' =>
   rw[e] at h;cases h;obtain⟨bs,rfl,rfl⟩:=ih e;exact⟨c::bs,rfl,by simp⟩
theorem b6.OQ{K ρ H}:∀{bs:List Bool} {vs:List V},b6 K ρ H (bs.map D.bl) vs->vs=bs.map V.bl:=by
 intro bs
 induction bs with
 |nil=>intro vs h;cases h;rfl
 |cons b r ih =>
  intro vs h;cases h with
  |cons h rr=>rw[ih rr,h.O9];rfl
theorem UJ(hc:X.calm=true):m7 X (.builtin "all") (rN X.K .all):=by
 intro pins s Z H xs us Q I r h;obtain⟨ds,g,ρ,R,rs,d',g',⟨a,l,b,rfl,hl,hb,rfl,rfl⟩,q⟩:=h;obtain⟨v,rfl,rv⟩:=rs.one;obtain⟨a',rfl,ra⟩:=rv.j4;obtain⟨vs,hq,rs⟩:=R.items hl ra;rcases hb with hb|⟨ns,rfl,rfl⟩
 rotate_left
 ·have:=rs.ints;subst this;exact a50 hc pins s Z H _ us Q I r ⟨_,ns,rfl,hq,q.now R (.bl _)⟩
 obtain⟨bs,rfl,rfl⟩:=Xo hb;have:=rs.OQ;subst this;exact a51 hc pins s Z H _ us Q I r ⟨_,bs,rfl,hq,q.now R (.bl _)⟩
theorem AW{K ρ H}:∀(ns:List Int),b6 K ρ H (ns.map D.int) (ns.map V.int)
 |[]=>.nil
 |_::r=>.cons (.int _) (AW r)
theorem ZM(hc:X.calm=true):m7 X (.builtin "sorted") (rN X.K .eK):=by
 intro pins s Z H xs us Q I r h;obtain⟨ds,g,ρ,R,rs,d',g',⟨a,kvs,ns,rfl,ha,hk,hn,rfl,rfl⟩|⟨x,ns,rfl,hx,hn,rfl,rfl⟩,q⟩:=h
 rotate_left
 ·obtain⟨v,rfl,rv⟩:=rs.one;obtain⟨a,vs,rfl,rl,h⟩:=vd R rv hx;have:=rl.ints;subst this;exact WE pins s Z H _ us Q I r ⟨_,ns,rfl,h.imp (λz=>z.2) (λz=>z.2.sq),hn,λp hp=>q (ρ++[p]) _ _ (A6 hp) (R.new hp (o:=.lst ((N7 ns).map .int)) (u:=.lst ((N7 ns).map V.int)) (AW _)) (.ref (R.t4 p))⟩
 obtain⟨v,rfl,rv⟩:=rs.one;obtain⟨a',rfl,ra⟩:=rv.j4;obtain⟨vs,z1,rk⟩:=R.bO ha ra;exact WO hc pins s Z H _ us Q I r ⟨_,vs,ns,rfl,z1,rk.keys.symm.trans hk,hn,λp hp=>q (ρ++[p]) _ _ (A6 hp) (R.new hp (o:=.lst ((q9 ns).map .int)) (u:=.lst ((q9 ns).map V.int)) (AW _)) (.ref (R.t4 p))⟩
theorem My(hc:X.calm=true):m7 X (.builtin "sum") (rN X.K .sum):=by
 intro pins s Z H xs us Q I r h;obtain⟨ds,g,ρ,R,rs,d',g',⟨a,ns,rfl,hl,rfl,rfl⟩,q⟩:=h;obtain⟨v,rfl,rv⟩:=rs.one;obtain⟨a',rfl,ra⟩:=rv.j4;obtain⟨vs,hq,rs⟩:=R.items hl ra;have:=rs.ints;subst this;exact a48 hc pins s Z H _ us Q I r ⟨_,ns,rfl,hq,q.now R (.int _)⟩
theorem UZ:m7 X (.type "int") (rN X.K .int):=by
 intro pins s Z H xs us Q I r h;obtain⟨ds,g,ρ,R,rs,d',g',⟨rfl,h⟩,q⟩:=h;rcases h with⟨i,rfl,rfl⟩|⟨b,rfl,rfl⟩
 ·obtain⟨v,rfl,rv⟩:=rs.one;obtain rfl:=rv.j7;exact FP pins s Z H _ us Q I r (.inl ⟨i,rfl,q.now R (.int _)⟩)
 ·obtain⟨v,rfl,rv⟩:=rs.one;obtain rfl:=rv.O9;exact FP pins s Z H _ us Q I r (.inr ⟨b,rfl,q.now R (.int _)⟩)
def rM(K:PySem.W.Frag)(p:Pr):V->List V->Hp->VK->Prop:=λx xs H Q=>∃d ds g ρ,Rl K ρ g H/\f6 K ρ H d x/\b6 K ρ H ds xs/\cK p (d::ds) g (LQ K ρ H Q)
theorem Q5{a b:D}{m:List D}(h:a::l=b::m):a=b/\l=m:=by cases h;exact⟨rfl,rfl⟩
theorem a55:kB X "list.append" (rM X.K .append):=by
 intro pins s Z H x xs v us Q I rx r h;obtain⟨d,ds,g,ρ,R,rd,rs,d',g',⟨a,y,l,ex,ha,hz,rfl,rfl⟩,q⟩:=h;obtain⟨rfl,rfl⟩:=Q5 ex;obtain⟨a',rfl,ra⟩:=rd.j4;obtain⟨w,rfl,eW⟩:=rs.one;obtain⟨vs,z1,rv⟩:=R.lst ha ra;obtain⟨R2,e2⟩:=R.write ha ra (rv.append (.cons eW .nil));exact a17 pins s Z H _ _ v us Q I rx r ⟨_,vs,_,rfl,rfl,z1,by rw[<- rv.length];exact AJ hz,q ρ _ _ e2 R2 .bf⟩
theorem Pw:kB X "list.clear" (rM X.K .clear):=by
 intro pins s Z H x xs v us Q I rx r h;obtain⟨d,ds,g,ρ,R,rd,rs,d',g',⟨a,l,ex,ha,rfl,rfl⟩,q⟩:=h;obtain⟨rfl,rfl⟩:=Q5 ex;obtain⟨a',rfl,ra⟩:=rd.j4;cases rs;obtain⟨vs,z1,rv⟩:=R.lst ha ra;obtain⟨R2,e2⟩:=R.write ha ra (b6.nil);exact Ql pins s Z H _ _ v us Q I rx r ⟨_,vs,rfl,rfl,z1,q ρ _ _ e2 R2 .bf⟩
theorem Oi:kB X "list.pop" (rM X.K .pM):=by
 intro pins s Z H x xs v us Q I rx r h;obtain⟨d,ds,g,ρ,R,rd,rs,y,g',⟨a,l,ex,ha,rfl⟩,q⟩:=h;obtain⟨rfl,rfl⟩:=Q5 ex;obtain⟨a',rfl,ra⟩:=rd.j4;cases rs;obtain⟨vs,z1,rv⟩:=R.lst ha ra;obtain⟨w,hw,eW⟩:=rv.get (i:=l.length) (d:=y) (by simp);have hl:vs.length=l.length+1:=by rw[<- rv.length];simp
 have rl:b6 X.K ρ H l vs.dropLast:=by
  have:=rv.erase l.length;rw[List.eraseIdx_append_of_length_le (aj _)] at this;rw[show vs.eraseIdx l.length=vs.dropLast by rw[List.eraseIdx_eq_dropLast];omega] at this;simpa using this
 obtain⟨R2,e2⟩:=R.write ha ra rl;exact Vo pins s Z H _ _ v us Q I rx r ⟨_,vs,w,rfl,rfl,z1,by rw[hl];exact hw,q ρ _ _ e2 R2 (eW.ext e2)⟩
theorem ND(hc:X.calm=true):m7 X (.type "set") (rN X.K .pQ):=by
 intro pins s Z H xs us Q I r h;obtain⟨ds,g,ρ,R,rs,d',g',⟨a,ns,rfl,ha,hz,rfl,rfl⟩,q⟩:=h;obtain⟨v,rfl,rv⟩:=rs.one;obtain⟨a',rfl,ra⟩:=rv.j4;obtain⟨vs,z1,rk⟩:=R.items ha ra;obtain rfl:=rk.ints;refine Zk hc pins s Z H _ us Q I r ⟨a',ns,rfl,z1,hz,λp hp=>?_⟩;exact q (ρ++[p]) _ _ (A6 hp) (R.new hp (o:=.set (λk=>decide (k∈ns)) (ST.f9 [] ns).length) (u:=.set (λk=>decide (k∈ns)) (ST.f9 [] ns).length) ⟨rfl,rfl⟩) (.ref (R.t4 p))
theorem QF:kB X "list.pop" (rM X.K .pop):=by
 intro pins s Z H x xs v us Q I rx r h;obtain⟨d,ds,g,ρ,R,rd,rs,y,g',⟨a,i,l,k,ex,ha,h1,h2,hk,hy,rfl⟩,q⟩:=h;obtain⟨rfl,rfl⟩:=Q5 ex;obtain⟨a',rfl,ra⟩:=rd.j4;obtain⟨w,rfl,eW⟩:=rs.one;obtain rfl:=eW.j7;obtain⟨vs,z1,rv⟩:=R.lst ha ra;obtain⟨w,hw,eW⟩:=rv.get hy;obtain⟨R2,e2⟩:=R.write ha ra (rv.erase k);exact Qm pins s Z H _ _ v us Q I rx r ⟨_,vs,i,k,w,rfl,rfl,z1,h1,h2,by rw[<- rv.length];exact hk,hw,q ρ _ _ e2 R2 (eW.ext e2)⟩
theorem b6.strs{K ρ H}{ys:List Str}(h:b6 K ρ H (ys.map D.str) vs):vs=ys.map V.str:=by
 induction ys generalizing vs with
 |nil=>cases h;rfl
 |cons y ys ih =>
  cases h with
  |cons q r=>cases q;rw[ih r];rfl
theorem ty_list(R:Rl X.K ρ g H)(r:f6 X.K ρ H d v)(h:∃a l,d=.ref a/\d7 g a=some l):mO X.K "list" v H:=by
 obtain⟨a,l,rfl,hl⟩:=h;obtain⟨a',rfl,ra⟩:=r.j4;obtain⟨vs,hq,_⟩:=R.items hl ra;exact .inl ⟨rfl,vs,hq⟩
theorem Oy:kB X "set.add" (rM X.K .kZ):=by
 intro pins s Z H x xs v us Q I rx r h;obtain⟨d,ds,g,ρ,R,rd,rs,d',g',⟨a,i,S,n,ex,ha,hn,rfl,rfl⟩,q⟩:=h;obtain⟨rfl,rfl⟩:=Q5 ex;obtain⟨a',rfl,ra⟩:=rd.j4;obtain⟨w,rfl,eW⟩:=rs.one;obtain rfl:=eW.j7;obtain⟨R2,e2⟩:=R.put (o':=.set (λk=>S k||decide (k=i)) (if S i then n else n+1)) (u:=.set (λk=>S k||decide (k=i)) (if S i then n else n+1)) ha rfl ra ⟨rfl,rfl⟩;exact XN pins s Z H _ _ v us Q I rx r ⟨_,i,S,n,rfl,rfl,R.set ha ra,hn,q ρ _ _ e2 R2 .bf⟩
theorem ty_set(R:Rl X.K ρ g H)(r:f6 X.K ρ H d v)(h:nE .kZ d g):mO X.K "set" v H:=by
 obtain⟨a,S,n,rfl,hl⟩:=h;obtain⟨a',rfl,ra⟩:=r.j4;exact .inr (.inr (.inr ⟨rfl,S,n,R.set hl ra⟩))
theorem Nm:kB X "dict.pop" (rM X.K .iM):=by
 intro pins s Z H x xs v us Q I rx r h;obtain⟨d,ds,g,ρ,R,rd,rs,d',g',⟨a,y,kvs,c,ex,ha,hc,hv,rfl⟩,q⟩:=h;obtain⟨rfl,rfl⟩:=Q5 ex;obtain⟨a',rfl,ra⟩:=rd.j4;obtain⟨w1,rfl,r1⟩:=rs.one;obtain⟨vs,z1,rv⟩:=R.bO ha ra;have:=P9 hc r1;subst this;cases rx;have q2:=rv.val c;rw[hv] at q2;obtain⟨w,hw,q2⟩:=q2.some;obtain⟨R2,e2⟩:=R.put (o':=.bO (delD kvs c)) (u:=.dK (qJ vs c)) ha rfl ra (rv.drop c);cases r with
 |cons r rr =>
 cases rr;exact SI I z1 r hw (.inl rfl) λw' s3 I3 eW=>⟨w,_,I3,eW,q ρ _ _ e2 R2 (q2.ext e2)⟩
theorem ty_dict(R:Rl X.K ρ g H)(r:f6 X.K ρ H d v)(h:nE .get d g):mO X.K "dict" v H:=by
 obtain⟨a,l,rfl,hl⟩:=h;obtain⟨a',rfl,ra⟩:=r.j4;obtain⟨vs,hq,_⟩:=R.bO hl ra;exact .inr (.inr (.inl ⟨rfl,.inl ⟨vs,hq⟩⟩))
noncomputable abbrev gL:=List Str×XK
def LX(K:PySem.W.Frag)(ρ:List Addr)(H:Hp)(Ξ:gL):KX:=λx g'=>∀bB H' C,Ext ρ H bB H'->Rl K bB g' H'->x.cls∈Ξ.1->p7 K x.cls C->Ξ.2 (.ref C) none H'
theorem LX.ext{K:PySem.W.Frag}{bH:List Addr}{H1:Hp}{Ξ:gL}(e:Ext ρ H bH H1){x:Xn}(h:LX K ρ H Ξ x g):LX K bH H1 Ξ x g:=λbB H' C e' R hm c=>h bB H' C (e.trans e') R hm c
noncomputable abbrev nh(ex:List Str):gL:=(ex,λ_ _ _=>False)
def LE(K:PySem.W.Frag)(Ξ:gL)(t:S->G->KD->KX->Prop):TE:=λbN H Q=>∃Z g ρ,m9 K ρ H Z bN/\Rl K ρ g H/\t Z g (LQ K ρ H Q) (LX K ρ H Ξ)
def LT(K:PySem.W.Frag)(Ξ:gL)(t:S->G->(Bool->G->Prop)->KX->Prop):TT:=λbN H Q=>∃Z g ρ,m9 K ρ H Z bN/\Rl K ρ g H/\t Z g (λb g'=>∀bB H',Ext ρ H bB H'->Rl K bB g' H'->Q b H') (LX K ρ H Ξ)
def LA(K:PySem.W.Frag)(Ξ:gL)(t:S->G->(List D->G->Prop)->KX->Prop):TA:=λbN H Q=>∃Z g ρ,m9 K ρ H Z bN/\Rl K ρ g H/\t Z g (λds g'=>∀bB H' vs,Ext ρ H bB H'->Rl K bB g' H'->b6 K bB H' ds vs->Q vs H') (LX K ρ H Ξ)
def Z8(K:PySem.W.Frag)(fO:List Addr)(H0:Hp)(k:IK)(J:It):Prop:=∀ρ g H,Ext fO H0 ρ H->Rl K ρ g H->∀i,(k.at i g=some none->J.stop i H) /\
 ∀d,k.at i g=some (some d)->J.go i H/\∀v H',J.nA i H v H'->Ext ρ H ρ H'/\Rl K ρ g H'/\f6 K ρ H' d v
def LI(K:PySem.W.Frag)(Ξ:gL)(t:S->G->(IK->G->Prop)->KX->Prop):TI:=λbN H R=>∃Z g ρ,m9 K ρ H Z bN/\Rl K ρ g H/\t Z g (λk g'=>∀bB H' J,Ext ρ H bB H'->Rl K bB g' H'->Z8 K bB H' k J->R J H') (LX K ρ H Ξ)
def LG(K:PySem.W.Frag)(t:MT):TG:=λv bN H Q=>∃d Z g ρ,m9 K ρ H Z bN/\Rl K ρ g H/\f6 K ρ H d v/\jK t d Z (λbI=>∀cR,m9 K ρ H bI cR->Q cR H)
def LN(K:PySem.W.Frag)(ρ:List Addr)(H:Hp)(N:L2.Ends):Ends where
 nx:=λbI g'=>∀bB H' cR,Ext ρ H bB H'->Rl K bB g' H'->m9 K bB H' bI cR->N.nx cR H'
 rt:=LQ K ρ H N.rt
 bk:=λbI g'=>∀bB H' cR,Ext ρ H bB H'->Rl K bB g' H'->m9 K bB H' bI cR->N.bk cR H'
 ct:=λbI g'=>∀bB H' cR,Ext ρ H bB H'->Rl K bB g' H'->m9 K bB H' bI cR->N.ct cR H'
def LS(K:PySem.W.Frag)(Ξ:gL)(t:Ends->S->G->KX->Prop):TS:=λN bN H=>∃Z g ρ,m9 K ρ H Z bN/\Rl K ρ g H/\t (LN K ρ H N) Z g (LX K ρ H Ξ)
end M
namespace L2
open PySem PySem.Spec PyProof.Rows
variable{t t':TT}
section
variable{X:Cx}{e:Expr}
theorem PE.imp{t t':TE}(h:PE X e t)(i:∀Z H Q,t' Z H Q->t Z H Q):PE X e t':=λpins s Z H Q I q=>h pins s Z H Q I (i Z H Q q)
theorem PT.imp(h:PT X e t)(i:∀Z H Q,t' Z H Q->t Z H Q):PT X e t':=λpins s Z H Q I q=>h pins s Z H Q I (i Z H Q q)
theorem PW.imp(h:PW X e t)(i:∀Z H Q,t' Z H Q->t Z H Q):PW X e t':=λw pins s Z H Q I q=>h w pins s Z H Q I (i Z H Q q)
theorem PA.imp{es:List Expr}{t t':TA}(h:PA X es t)(i:∀Z H Q,t' Z H Q->t Z H Q):PA X es t':=λp pins s Z H Q I q=>h p pins s Z H Q I (i Z H Q q)
theorem jD.imp{es:List Expr}(h:jD X es t)(i:∀Z H Q,t' Z H Q->t Z H Q):jD X es t':=λpins s Z H Q I q=>h pins s Z H Q I (i Z H Q q)
theorem PI.imp{tg:Expr}{t t':TI}(h:PI X tg e t)(i:∀Z H Q,t' Z H Q->t Z H Q):PI X tg e t':=λpins s Z H Q I q=>h pins s Z H Q I (i Z H Q q)
theorem PG.imp{t t':TG}(h:PG X e t)(i:∀v Z H Q,t' v Z H Q->t v Z H Q):PG X e t':=λpins s Z H v u Q I r q=>h pins s Z H v u Q I r (i v Z H Q q)
theorem PS.imp{st:Stmt}{t t':TS}(h:PS X st t)(i:∀N Z H,t' N Z H->t N Z H):PS X st t':=λpins s Z H N I q=>h pins s Z H N I (i N Z H q)
theorem iP.imp{st:List Stmt}{t t':TS}(h:iP X st t)(i:∀N Z H,t' N Z H->t N Z H):iP X st t':=λpins s Z H N I q=>h pins s Z H N I (i N Z H q)
end
end L2
namespace M
open PySem L2 PySem.Spec PyProof.Rows
variable{Ξ:gL}{P:eO}{op ia:CmpOp}{rest es:List Expr}{fW mo:ME}{p2 q apos jn:Pos}{o:Expr}
section
variable{K:PySem.W.Frag}(hP:j5 P){ρ fO:List Addr}{H H0:Hp}{Z:S}{bN:L2.St}{g:G}{m:ME}
include hP
theorem eT{Q0:KD}{Q:VK}(s:m9 K ρ H Z bN)(R:Rl K ρ g H)(e0:Ext fO H0 ρ H)(h:aS P m Z g Q0 (LX K fO H0 Ξ))(k:∀x g1 bH H1 v1,Ext ρ H bH H1->Rl K bH g1 H1->f6 K bH H1 x v1->Q0 x g1->Q v1 H1):LE K Ξ (aS P m) bN H Q :=
 ⟨Z,g,ρ,s,R,b8 hP m _ _ _ _ _ _ (λx g1 h bH H1 v1 e1 R1 r1=>k x g1 bH H1 v1 e1 R1 r1 h) (λ_ _ z=>LX.ext e0 z) h⟩
theorem jc{Q0:List D->G->Prop}{Q:List V->Hp->Prop}(s:m9 K ρ H Z bN)(R:Rl K ρ g H)(e0:Ext fO H0 ρ H)(h:fe P m Z g Q0 (LX K fO H0 Ξ))(k:∀x g1 bH H1 v1,Ext ρ H bH H1->Rl K bH g1 H1->b6 K bH H1 x v1->Q0 x g1->Q v1 H1):LA K Ξ (fe P m) bN H Q :=
 ⟨Z,g,ρ,s,R,v5 hP m _ _ _ _ _ _ (λx g1 h bH H1 v1 e1 R1 r1=>k x g1 bH H1 v1 e1 R1 r1 h) (λ_ _ z=>LX.ext e0 z) h⟩
theorem oz{Q0:Bool->G->Prop}{Q:Bool->Hp->Prop}(s:m9 K ρ H Z bN)(R:Rl K ρ g H)(e0:Ext fO H0 ρ H)(h:dw P m Z g Q0 (LX K fO H0 Ξ))(k:∀t g1 bH H1,Ext ρ H bH H1->Rl K bH g1 H1->Q0 t g1->Q t H1):LT K Ξ (dw P m) bN H Q :=
 ⟨Z,g,ρ,s,R,n6 hP m _ _ _ _ _ _ (λt g1 h bH H1 e1 R1=>k t g1 bH H1 e1 R1 h) (λ_ _ z=>LX.ext e0 z) h⟩
theorem rf{ms:MS}{N:L2.Ends}{N0:Ends}(s:m9 K ρ H Z bN)(R:Rl K ρ g H)(e0:Ext fO H0 ρ H)(h:wpS P ms N0 Z g (LX K fO H0 Ξ))(k:N0.le (LN K ρ H N)):LS K Ξ (wpS P ms) N bN H :=
 ⟨Z,g,ρ,s,R,wpS_mono hP ms _ _ _ _ _ _ k (λ_ _ z=>LX.ext e0 z) h⟩
end
theorem b6.lG{K ρ H}(lo:Int)(n:Nat):b6 K ρ H (A4 lo n) ((List.range n).map λ(k:Nat)=>V.int (lo+k)):=by
 unfold A4;have:∀l:List Nat,b6 K ρ H (l.map λ(k:Nat)=>D.int (lo+k)) (l.map λ(k:Nat)=>V.int (lo+k)):=by
  intro l
  induction l with
  |nil=>exact .nil
  |cons x r ih=>exact .cons (.int _) ih
 exact this _
section
variable{X:Cx}(hP:j5 P){a b c e:Expr}{ma mb mc:ME}{pos:Pos}{p:Pr}
include hP
theorem Cn(h:PE X e (oB (r2 X.K p) (LE X.K Ξ (aS P ma)) (LE X.K Ξ (aS P mb)))):PE X e (LE X.K Ξ (aS P (.prim p (.cons ma (.cons mb .nil))))) :=
 h.imp λbN H Q aT=>by
  obtain⟨Z,g,ρ,s,R,h⟩:=aT;exact eT hP s R (.refl _ _) h λx g1 bH H1 v1 e1 R1 r1 h=>eT hP (s.ext e1) R1 e1 h λy g2 eA H2 v2 e2 R2 r2 h =>
   ⟨x,y,g2,eA,R2,r1.ext e2,r2,p8 (λd g' h=>h.ext (e1.trans e2)) h⟩
theorem Mw(h:PT X e (uV (oB (r2 X.K (.cmp op)) (LE X.K Ξ (aS P ma)) (LE X.K Ξ (aS P mb))))):PT X e (LT X.K Ξ (dw P (.dU (.prim (.cmp op) (.cons ma (.cons mb .nil)))))) :=
 h.imp λbN H Q aT=>by
  obtain⟨Z,g,ρ,s,R,h⟩:=aT;refine eT hP s R (.refl _ _) h λx g1 bH H1 v1 e1 R1 r1 h=>eT hP (s.ext e1) R1 e1 h λy g2 eA H2 v2 e2 R2 r2 h=>?_;obtain⟨d',g',h,q⟩:=h;obtain⟨x',y',t,ex,hc,rfl,rfl⟩:=id h;refine⟨x,y,g',eA,R2,r1.ext e2,r2,_,_,h,λbB H' v e' R' r'=>?_⟩;obtain⟨t',ht,q⟩:=q;rcases ht with⟨z,_⟩|z|⟨i,z,_⟩|⟨l,z,_⟩|⟨a,l,z,_⟩<;>cases z
  exact⟨_,r'.O9,q bB H' (e1.trans (e2.trans e')) R'⟩
theorem Ui{op:UnaryOp}(ha:PE X a (LE X.K Ξ (aS P ma))):PE X (.UnaryOp op a pos) (LE X.K Ξ (aS P (.prim (.un op) (.cons ma .nil)))) :=
 (TQ (TH op) ha).imp λbN H Q aT=>by
  obtain⟨Z,g,ρ,s,R,h⟩:=aT;exact eT hP s R (.refl _ _) h λx g1 bH H1 v1 e1 R1 r1 h=>⟨x,g1,bH,R1,r1,p8 (λd g' h=>h.ext e1) h⟩
theorem Ig:∀bN H Q,LE X.K Ξ (aS P (.chain op ia ma mb mc)) bN H Q->Co (r2 X.K (.cmp op)) (r2 X.K (.cmp ia)) (LE X.K Ξ (aS P ma)) (LE X.K Ξ (aS P mb)) (LE X.K Ξ (aS P mc)) bN H Q:=λbN H Q aT=>by
 obtain⟨Z,g,ρ,s,R,h⟩:=aT;refine eT hP s R (.refl _ _) h λx g1 bH H1 v1 e1 R1 r1 h=>eT hP (s.ext e1) R1 e1 h λy g2 eA H2 v2 e2 R2 r2 h=>?_;refine⟨x,y,g2,eA,R2,r1.ext e2,r2,p8 (λd g3 h iJ H3 v3 e3 R3 r3=>?_) h⟩;obtain⟨t,rfl,h⟩:=h;obtain rfl:=r3.O9;refine⟨t,rfl,?_⟩;cases t
 ·exact h iJ H3 _ (e1.trans (e2.trans e3)) R3 (.bl _)
 ·exact eT hP (s.ext (e1.trans (e2.trans e3))) R3 (e1.trans (e2.trans e3)) h λz g4 kT H4 v4 e4 R4 r4 h =>
   ⟨y,z,g4,kT,R4,r2.ext (e3.trans e4),r4,p8 (λd g' h=>h.ext (e1.trans (e2.trans (e3.trans e4)))) h⟩
theorem Zy(hu:X.A.units+100<cLine)(ha:PE X a (LE X.K Ξ (aS P ma)))(hb:PE X b (LE X.K Ξ (aS P mb)))(hc:PE X c (LE X.K Ξ (aS P mc)))(hm:lastMarks [op,ia] [b,c]=false) :
  PE X (.Compare a [op,ia] [b,c] pos) (LE X.K Ξ (aS P (.chain op ia ma mb mc))):=(Qt (sv hu op) (sv hu ia) ha hb hc hm).imp (Ig hP)
theorem Pu{Z:S}{g:G}{Q:Bool->G->Prop}{E:KX}(h:dw P (.dU (.chain op ia ma mb mc)) Z g Q E):aS P (.chain op ia ma mb mc) Z g (λd g'=>∃t,d=.bl t/\Q t g') E:=by
 have one:∀{o:CmpOp} {xs:List D} {g:G},cK (.cmp o) xs g (λd g1=>pj g1 d λb=>Q b g1)->cK (.cmp o) xs g λd g'=>∃t,d=.bl t/\Q t g':=by
  intro o xs g h;obtain⟨d',g',h,t',ht,q⟩:=h;obtain⟨x',y',t,ex,hc,rfl,rfl⟩:=id h;refine⟨_,_,h,t',?_,q⟩;rcases ht with⟨z,_⟩|z|⟨i,z,_⟩|⟨l,z,_⟩|⟨a,l,z,_⟩<;>first|exact z|cases z
 refine b8 hP ma _ _ _ _ _ _ (λx g1 h=>b8 hP mb _ _ _ _ _ _ (λy g2 h=>p8 (λz g3 h=>?_) h) (λ_ _ z=>z) h) (λ_ _ z=>z) h;obtain⟨t,rfl,h⟩:=h;refine⟨t,rfl,?_⟩;cases t
 ·obtain⟨b,hb,q⟩:=(show pj g3 (.bl false) λb=>Q b g3 from h)
  rcases hb with⟨z,_⟩|z|⟨i,z,_⟩|⟨l,z,_⟩|⟨a,l,z,_⟩<;>first|(cases z;exact⟨_,rfl,q⟩)|cases z
 ·exact b8 hP mc _ _ _ _ _ _ (λw g4 h=>one h) (λ_ _ z=>z) h
theorem ZN(hu:X.A.units+100<cLine)(ha:PE X a (LE X.K Ξ (aS P ma)))(hb:PE X b (LE X.K Ξ (aS P mb)))(hc:PE X c (LE X.K Ξ (aS P mc)))(hm:lastMarks [op,ia] [b,c]=false) :
  PT X (.Compare a [op,ia] [b,c] pos) (LT X.K Ξ (dw P (.dU (.chain op ia ma mb mc)))) :=
 (Zu (sv hu op) (sv hu ia) ha hb hc hm).imp λbN H Q ⟨Z,g,ρ,s,R,h⟩ =>
  Ig hP bN H _ (eT hP s R (.refl _ _) (Pu hP h) λx g1 bH H1 v1 e1 R1 r1 h=>by
   obtain⟨t,rfl,h⟩:=h;exact ⟨t,r1.O9,h bH H1 e1 R1⟩)
theorem Ma(ha:PE X a (LE X.K Ξ (aS P ma)))(hb:PE X (.BoolOp .And (b::rest) pos) (LE X.K Ξ (aS P mb))):PE X (.BoolOp .And (a::b::rest) pos) (LE X.K Ξ (aS P (.dH ma mb))) :=
 (VE ha hb).imp λbN H Q aT=>by
  obtain⟨Z,g,ρ,s,R,h⟩:=aT;refine eT hP s R (.refl _ _) h λx g1 bH H1 v1 e1 R1 r1 h=>?_;obtain⟨t,rfl,h⟩:=h;refine⟨t,r1.O9,?_⟩;cases t
  ·exact h bH H1 _ e1 R1 (.bl _)
  ·exact eT hP (s.ext e1) R1 e1 h λy g2 eA H2 v2 e2 R2 r2 h=>h eA H2 v2 (e1.trans e2) R2 r2
theorem Uh(ha:PE X a (LE X.K Ξ (aS P ma)))(hb:PE X (.BoolOp .Or (b::rest) pos) (LE X.K Ξ (aS P mb))):PE X (.BoolOp .Or (a::b::rest) pos) (LE X.K Ξ (aS P (.gC ma mb))) :=
 (TN ha hb).imp λbN H Q aT=>by
  obtain⟨Z,g,ρ,s,R,h⟩:=aT;refine eT hP s R (.refl _ _) h λx g1 bH H1 v1 e1 R1 r1 h=>?_;obtain⟨t,rfl,h⟩:=h;refine⟨t,r1.O9,?_⟩;cases t
  ·exact eT hP (s.ext e1) R1 e1 h λy g2 eA H2 v2 e2 R2 r2 h=>h eA H2 v2 (e1.trans e2) R2 r2
  ·exact h bH H1 _ e1 R1 (.bl _)
theorem Mg(ha:PE X a (LE X.K Ξ (aS P ma))):PE X (.UnaryOp .Not a pos) (LE X.K Ξ (aS P (.cV ma))) :=
 (VL ha).imp λbN H Q aT=>by
  obtain⟨Z,g,ρ,s,R,h⟩:=aT;refine eT hP s R (.refl _ _) h λx g1 bH H1 v1 e1 R1 r1 h=>?_;obtain⟨t,rfl,h⟩:=h;exact⟨t,r1.O9,h bH H1 _ e1 R1 (.bl _)⟩
theorem Mf(hc:PT X c (LT X.K Ξ (dw P mc)))(ha:PE X a (LE X.K Ξ (aS P ma)))(hb:PE X b (LE X.K Ξ (aS P mb))):PE X (.IfExp c a b pos) (LE X.K Ξ (aS P (.ite mc ma mb))) :=
 (Qw hc ha hb).imp λbN H Q aT=>by
  obtain⟨Z,g,ρ,s,R,h⟩:=aT;refine oz hP s R (.refl _ _) h λt g1 bH H1 e1 R1 h=>?_;cases t
  ·exact eT hP (s.ext e1) R1 e1 h λy g2 eA H2 v2 e2 R2 r2 h=>h eA H2 v2 (e1.trans e2) R2 r2
  ·exact eT hP (s.ext e1) R1 e1 h λy g2 eA H2 v2 e2 R2 r2 h=>h eA H2 v2 (e1.trans e2) R2 r2
theorem Mh{k:Nat}(h:PA X es (LA X.K Ξ (fe P fW))):PE X (.Tuple es k pos) (LE X.K Ξ (aS P (.prim .tup fW))) :=
 (VN h).imp λbN H Q aT=>by
  obtain⟨Z,g,ρ,s,R,h⟩:=aT;refine jc hP s R (.refl _ _) h λds g1 bH H1 vs e1 R1 r1 h=>?_;obtain⟨d',g',⟨hz,rfl,rfl⟩,q⟩:=h;exact⟨by rw[<- r1.length];exact m5 (aJ hz (by decide)),λp hp=>(q.ext e1).tup R1 hp r1⟩
theorem Hg(h:PA X es (LA X.K Ξ (fe P fW))):PE X (.List es pos) (LE X.K Ξ (aS P (.prim .lst fW))) :=
 (VI h).imp λbN H Q aT=>by
  obtain⟨Z,g,ρ,s,R,h⟩:=aT;refine jc hP s R (.refl _ _) h λds g1 bH H1 vs e1 R1 r1 h=>?_;obtain⟨d',g',⟨hz,rfl,rfl⟩,q⟩:=h;exact⟨by rw[<- r1.length];exact m5 (aJ hz (by decide)),λp hp=>(q.ext e1).new R1 hp r1⟩
theorem M1:PA X [] (LA X.K Ξ (fe P .nil)) :=
 (sx (X:=X)).imp λbN H Q aT=>by
  obtain⟨Z,g,ρ,s,R,h⟩:=aT;exact h ρ H [] (.refl _ _) R .nil
theorem B5(ha:PE X a (LE X.K Ξ (aS P ma)))(h:PA X es (LA X.K Ξ (fe P fW)))(hs:starEach (a::es) X.env=(false,eval a X.env)::starEach es X.env):PA X (a::es) (LA X.K Ξ (fe P (.cons ma fW))) :=
 (U1 ha h hs).imp λbN H Q aT=>by
  obtain⟨Z,g,ρ,s,R,h⟩:=aT;exact eT hP s R (.refl _ _) h λx g1 bH H1 v1 e1 R1 r1 h=>jc hP (s.ext e1) R1 e1 h λxs g2 eA H2 vs e2 R2 r2 h=>h eA H2 _ (e1.trans e2) R2 (.cons (r1.ext e2) r2)
theorem ZH(ha:PE X a (LE X.K Ξ (aS P ma))):PE X (.Subscript a (.Slice none none none p2) pos) (LE X.K Ξ (aS P (.prim (.kY false false) (.cons ma .nil)))) :=
 (Bc BW ha xb xb).imp λbN H Q aT=>by
  obtain⟨Z,g,ρ,s,R,h⟩:=aT;refine eT hP s R (.refl _ _) h λx g1 bH H1 v1 e1 R1 r1 h=>?_;obtain⟨d',g',⟨x',ex,h⟩,q⟩:=h;cases ex;exact⟨x,g1,bH,d',g',R1,r1,h,q.ext e1⟩
theorem ZJ(ha:PE X a (LE X.K Ξ (aS P ma)))(hb:PE X b (LE X.K Ξ (aS P mb))):PE X (.Subscript a (.Slice (some b) none none p2) pos) (LE X.K Ξ (aS P (.prim (.kY true false) (.cons ma (.cons mb .nil))))) :=
 (Bc BW ha (HQ hb) xb).imp λbN H Q aT=>by
  obtain⟨Z,g,ρ,s,R,h⟩:=aT;refine eT hP s R (.refl _ _) h λx g1 bH H1 v1 e1 R1 r1 h=>eT hP (s.ext e1) R1 e1 h λy g2 eA H2 v2 e2 R2 r2 h=>?_;obtain⟨d',g',⟨x',i,ex,h⟩,q⟩:=h;cases ex;exact⟨i,r2.j7,x,g2,eA,d',g',R2,r1.ext e2,h,q.ext (e1.trans e2)⟩
theorem ZI(ha:PE X a (LE X.K Ξ (aS P ma)))(hb:PE X b (LE X.K Ξ (aS P mb))):PE X (.Subscript a (.Slice none (some b) none p2) pos) (LE X.K Ξ (aS P (.prim (.kY false true) (.cons ma (.cons mb .nil))))) :=
 (Bc BW ha xb (HQ hb)).imp λbN H Q aT=>by
  obtain⟨Z,g,ρ,s,R,h⟩:=aT;refine eT hP s R (.refl _ _) h λx g1 bH H1 v1 e1 R1 r1 h=>eT hP (s.ext e1) R1 e1 h λy g2 eA H2 v2 e2 R2 r2 h=>?_;obtain⟨d',g',⟨x',i,ex,h⟩,q⟩:=h;cases ex;exact⟨i,r2.j7,x,g2,eA,d',g',R2,r1.ext e2,h,q.ext (e1.trans e2)⟩
theorem Mx(ha:PE X a (LE X.K Ξ (aS P ma)))(he:∀whole,isTrue a X.env whole=(do let v <- whole;standAt a.pos;holding [v] (truthy v))):PT X a (LT X.K Ξ (dw P (.dU ma))) :=
 (Zv ha he).imp λbN H Q aT=>by
  obtain⟨Z,g,ρ,s,R,h⟩:=aT;refine eT hP s R (.refl _ _) h λx g1 bH H1 v1 e1 R1 r1 h=>?_;obtain⟨b,h1,h2⟩:=h;exact⟨b,MN R1 r1 h1,h2 bH H1 e1 R1⟩
theorem Mv(ha:PT X a (LT X.K Ξ (dw P ma))):PT X (.UnaryOp .Not a pos) (LT X.K Ξ (dw P (.cV ma))) :=
 (VY ha).imp λbN H Q aT=>by
  obtain⟨Z,g,ρ,s,R,h⟩:=aT;exact oz hP s R (.refl _ _) h λt g1 bH H1 e1 R1 h=>h bH H1 e1 R1
theorem Mz(ha:PT X a (LT X.K Ξ (dw P ma)))(hb:PW X (.BoolOp .And (b::rest) pos) (LT X.K Ξ (dw P mb))):PW X (.BoolOp .And (a::b::rest) pos) (LT X.K Ξ (dw P (.dH ma mb))) :=
 (VZ ha hb).imp λbN H Q aT=>by
  obtain⟨Z,g,ρ,s,R,h⟩:=aT;refine oz hP s R (.refl _ _) h λt g1 bH H1 e1 R1 h=>?_;cases t
  ·exact h bH H1 e1 R1
  ·exact oz hP (s.ext e1) R1 e1 h λt g2 eA H2 e2 R2 h=>h eA H2 (e1.trans e2) R2
theorem Uk(ha:PT X a (LT X.K Ξ (dw P ma)))(hb:PW X (.BoolOp .Or (b::rest) pos) (LT X.K Ξ (dw P mb))):PW X (.BoolOp .Or (a::b::rest) pos) (LT X.K Ξ (dw P (.gC ma mb))) :=
 (TV ha hb).imp λbN H Q aT=>by
  obtain⟨Z,g,ρ,s,R,h⟩:=aT;refine oz hP s R (.refl _ _) h λt g1 bH H1 e1 R1 h=>?_;cases t
  ·exact oz hP (s.ext e1) R1 e1 h λt g2 eA H2 e2 R2 h=>h eA H2 (e1.trans e2) R2
  ·exact h bH H1 e1 R1
theorem OV:jD X [] (LT X.K Ξ (dw P .no)) :=
 (Ot (X:=X)).imp λbN H Q aT=>by
  obtain⟨Z,g,ρ,s,R,h⟩:=aT;exact h ρ H (.refl _ _) R
theorem Mb{x:Str}{v:Value}(hv:(∃id,v=.builtin id)\/∃T,v=.type T)(hc:m7 X v (rN X.K p))(hg:Gl X x)(hm:X.mg x=none)(hb:bootBuiltins x=some v)(ha:PA X (e::es) (LA X.K Ξ (fe P fW)))(hn:x≠"__name__")(hd:(x==("__debug__":Str))=false)(eU:starEach (e::es) X.env=(false,eval e X.env)::starEach es X.env)(gj:(backTo pos (starEach es X.env)).any (·.1)=false):PE X (.Call (.Name x q) (e::es) [] pos) (LE X.K Ξ (aS P (.prim p fW))):=by
 have base:PE X (.Call (.Name x q) (e::es) [] pos) (yi (rN X.K p) (LA X.K Ξ (fe P fW))):=by
  rcases hv with⟨id,rfl⟩|⟨T,rfl⟩
  ·exact xn hc hg hm hb ha hn hd eU gj
  ·exact R8 hc hg hm hb ha hn hd eU gj
 refine base.imp λbN H Q aT=>?_;obtain⟨Z,g,ρ,s,R,h⟩:=aT;exact jc hP s R (.refl _ _) h λxs g1 bH H1 vs e1 R1 r1 h=>⟨xs,g1,bH,R1,r1,p8 (λd g' h=>h.ext e1) h⟩
theorem HY{T:String}{name:Str}{id:String}(pa:PlainAttrs T)(slot:Slot T name id)(pT:typeOf (.builtin id)=pure (.type "method_descriptor"))(hm:kB X id (rM X.K p))(hk:∀{d:D} {v:V} {g:G} {ρ:List Addr} {H:Hp},Rl X.K ρ g H->f6 X.K ρ H d v->nE p d g->mO X.K T v H)(ho:PE X o (LE X.K Ξ (aS P mo)))(ha:PA X (e::es) (LA X.K Ξ (fe P fW)))(fq:attributeBase o name X.env (eval o X.env)=eval o X.env)(kq:((backTo pos (starEach (e::es) X.env)).all (λx=>!x.1)&&(backToKw pos (keywordEach [] X.env)).all (λx=>x.1.isSome)&&decide ((e::es).length+([]:List Keyword).length+(if([]:List Keyword).isEmpty then 0 else 1)<30))=true)(fo:(apos.endLine==pos.line)=true)(hs:starEach (e::es) X.env=(false,eval e X.env)::starEach es X.env)(eG:(backTo pos (starEach es X.env)).any (·.1)=false) :
  PE X (.Call (.Attribute o name apos) (e::es) [] pos) (LE X.K Ξ (aS P (.eL p mo fW))) :=
 (TK pa slot pT hm ho ha fq kq fo hs eG).imp λbN H Q aT=>by
  obtain⟨Z,g,ρ,s,R,h⟩:=aT;exact eT hP s R (.refl _ _) h λx g1 bH H1 v1 e1 R1 r1 h=>⟨hk R1 r1 h.1,jc hP (s.ext e1) R1 e1 h.2 λxs g2 eA H2 ws e2 R2 r2 h =>
   ⟨x,xs,g2,eA,R2,r1.ext e2,r2,p8 (λd g' h=>h.ext (e1.trans e2)) h⟩⟩
theorem ZE{T:String}{name:Str}{id:String}(pa:PlainAttrs T)(slot:Slot T name id)(pT:typeOf (.builtin id)=pure (.type "method_descriptor"))(hm:kB X id (rM X.K p))(hk:∀{d:D} {v:V} {g:G} {ρ:List Addr} {H:Hp},Rl X.K ρ g H->f6 X.K ρ H d v->nE p d g->mO X.K T v H)(ho:PE X o (LE X.K Ξ (aS P mo)))(fq:attributeBase o name X.env (eval o X.env)=eval o X.env)(fo:(apos.endLine==pos.line)=true) :
  PE X (.Call (.Attribute o name apos) [] [] pos) (LE X.K Ξ (aS P (.eL p mo .nil))) :=
 (VF pa slot pT hm ho fq fo).imp λbN H Q aT=>by
  obtain⟨Z,g,ρ,s,R,h⟩:=aT;exact eT hP s R (.refl _ _) h λx g1 bH H1 v1 e1 R1 r1 h=>⟨hk R1 r1 h.1,x,[],g1,bH,R1,r1,.nil,p8 (λd g' h=>h.ext e1) h.2⟩
omit hP in
theorem Ik{K ρ H}{d:D}{v:V}(r:f6 K ρ H d v)(h:xG d=true):v=toV d/\J7 v=true:=by
 cases r with
 |bf=>exact⟨rfl,rfl⟩
 |bl _=>exact⟨rfl,rfl⟩
 |int _=>exact⟨rfl,rfl⟩
 |str _=>exact⟨rfl,rfl⟩
 |ty _=>exact absurd h bA
 |ref _=>exact absurd h bA
 |tup _ _=>exact absurd h bA
omit hP in
theorem a40{K ρ H}{l:List D}{vs:List V}(r:b6 K ρ H l vs)(h:l.all xG=true):vs=l.map toV/\vs.all J7=true:=by
 induction l generalizing vs with
 |nil=>cases r;exact⟨rfl,rfl⟩
 |cons d l ih =>
  cases r with
  |cons rd rs =>
   rw[gG,ba] at h;obtain⟨e1,f1⟩:=Ik rd h.1;obtain⟨e2,f2⟩:=ih rs h.2;subst e1 e2;exact⟨rfl,by rw[gG,f1,f2];rfl⟩
omit hP in
theorem FU{K ρ H}{l:List D}{vs:List V}{y:D}{w:V}{n:Nat}(r:b6 K ρ H l vs)(ry:f6 K ρ H y w)(h:II l y n):wM vs w n:=by
 obtain⟨h1,h2,⟨z,h3,h4⟩,h5⟩:=h;obtain⟨e1,f1⟩:=a40 r h1;obtain⟨e2,f2⟩:=Ik ry h2;subst e1 e2;refine⟨f1,f2,⟨toV z,by rw[aB,h3];rfl,h4⟩,λm z' hm hz=>?_⟩;rw[aB,ae] at hz;obtain⟨Jp,hz,rfl⟩:=hz;exact h5 m Jp hm hz
theorem Zz(ho:PE X o (LE X.K Ξ (aS P mo)))(ha:PA X (e::es) (LA X.K Ξ (fe P fW)))(fq:attributeBase o "index" X.env (eval o X.env)=eval o X.env)(kq:((backTo pos (starEach (e::es) X.env)).all (λx=>!x.1)&&(backToKw pos (keywordEach [] X.env)).all (λx=>x.1.isSome)&&decide ((e::es).length+([]:List Keyword).length+(if([]:List Keyword).isEmpty then 0 else 1)<30))=true)(fo:(apos.endLine==pos.line)=true)(hs:starEach (e::es) X.env=(false,eval e X.env)::starEach es X.env)(eG:(backTo pos (starEach es X.env)).any (·.1)=false) :
  PE X (.Call (.Attribute o "index" apos) (e::es) [] pos) (LE X.K Ξ (aS P (.eL .index mo fW))) :=
 (Qx ho ha fq kq fo hs eG).imp λbN H Q aT=>by
  obtain⟨Z,g,ρ,s,R,h⟩:=aT;refine eT hP s R (.refl _ _) h λx g1 bH H1 v1 e1 R1 r1 h=>?_;obtain⟨hk,h⟩:=h;rcases hk with⟨l,rfl⟩|⟨a,l,rfl,hl⟩
  ·obtain⟨a',vs,rfl,ta,rs⟩:=r1.E3;refine .inr ⟨a',vs,rfl,ta.d,jc hP (s.ext e1) R1 e1 h λxs g2 eA H2 ws e2 R2 r2 h=>?_⟩;obtain⟨d',g',⟨x,y,l',n,ex,hi,W,hz,rfl,rfl⟩,q⟩:=h;cases ex;cases hi;obtain⟨w,rfl,eW⟩:=r2.one;exact⟨a',vs,w,n,rfl,rfl,(ta.ext e2).sq,FU (rs.ext e2) eW W,(q.ext (e1.trans e2)).now R2 (.int n)⟩
  ·obtain⟨a',rfl,ra⟩:=r1.j4;obtain⟨vs,hq,_⟩:=R1.items hl ra;refine .inl ⟨a',vs,rfl,hq,jc hP (s.ext e1) R1 e1 h λxs g2 eA H2 ws e2 R2 r2 h=>?_⟩;obtain⟨d',g',⟨x,y,l',n,ex,hi,W,hz,rfl,rfl⟩,q⟩:=h;cases ex;obtain⟨w,rfl,eW⟩:=r2.one;obtain⟨oy,Ks,lS⟩:=R2.items (show d7 _ a=some l' from hi) (e2.get ra);have hn:n<2 ^ 62:=by
    obtain⟨_,_,⟨z,DF,_⟩,_⟩:=W;have:=(aD.mp DF).1;omega
   exact⟨a',oy,w,n,rfl,rfl,Ks,FU lS eW W,hn,(q.ext (e1.trans e2)).now R2 (.int n)⟩
theorem ZA(hc:X.calm=true)(ha:PE X a (LE X.K Ξ (aS P ma)))(mw:Gl X "list")(nN:X.mg "list"=none)(hg:Gl X "range")(hm:X.mg "range"=none)(hs:starEach [a] X.env=[(false,eval a X.env)]) :
  PE X (.Call (.Name "list" p2) [.Call (.Name "range" q) [a] [] pos] [] jn) (LE X.K Ξ (aS P (.prim .lX (.cons ma .nil)))) :=
 (R8 (GY hc) mw nN (by first|exact eY|decide +kernel) (U1 (a04 hg hm (B5 hP ha (M1 hP) (by rw[hs];rfl)) hs) sx)).imp λbN H Q aT=>by
  obtain⟨Z,g,ρ,s,R,h⟩:=aT;refine jc hP s R (.refl _ _) h λxs g1 bH H1 vs e1 R1 r1 h=>?_;obtain⟨d',g',⟨j,rfl,h1,h2,rfl,rfl⟩,q⟩:=h;obtain⟨v,rfl,rv⟩:=r1.one;obtain rfl:=rv.j7;refine⟨j,rfl,λq' hq=>⟨q',0,j,rfl,j6,⟨by omega,by omega,h1,by omega,by omega⟩,λp hp=>?_⟩⟩;rw[show(j-0).toNat=j.toNat by omega];exact(q.ext (e1.trans (u7 hq))).new (R1.grow hq) hp (b6.lG 0 _)
theorem ZC(hc:X.calm=true)(ha:PE X a (LE X.K Ξ (aS P ma)))(hb:PE X b (LE X.K Ξ (aS P mb)))(mw:Gl X "list")(nN:X.mg "list"=none)(hg:Gl X "range")(hm:X.mg "range"=none)(hs:starEach [a,b] X.env=[(false,eval a X.env),(false,eval b X.env)])(gZ:starEach [b] X.env=[(false,eval b X.env)]) :
  PE X (.Call (.Name "list" p2) [.Call (.Name "range" q) [a,b] [] pos] [] jn) (LE X.K Ξ (aS P (.prim .lW (.cons ma (.cons mb .nil))))) :=
 (R8 (GY hc) mw nN (by first|exact eY|decide +kernel) (U1 (a03 hg hm (B5 hP ha (B5 hP hb (M1 hP) (by rw[gZ];rfl)) (by rw[hs,gZ])) hs gZ) sx)).imp λbN H Q aT=>by
  obtain⟨Z,g,ρ,s,R,h⟩:=aT;refine jc hP s R (.refl _ _) h λxs g1 bH H1 vs e1 R1 r1 h=>?_;obtain⟨d',g',⟨i,j,rfl,hb,rfl,rfl⟩,q⟩:=h;obtain⟨v,w,rfl,rv,eW⟩:=r1.two;obtain rfl:=rv.j7;obtain rfl:=eW.j7;exact⟨i,j,rfl,λq' hq=>⟨q',i,j,rfl,j6,hb,λp hp=>(q.ext (e1.trans (u7 hq))).new (R1.grow hq) hp (b6.lG i _)⟩⟩
theorem OI(hc:X.calm=true)(ha:PE X a (LE X.K Ξ (aS P ma)))(mw:Gl X "sorted")(nN:X.mg "sorted"=none)(hg:Gl X "set")(hm:X.mg "set"=none)(hs:starEach [a] X.env=[(false,eval a X.env)]) :
  PE X (.Call (.Name "sorted" p2) [.Call (.Name "set" q) [a] [] pos] [] jn) (LE X.K Ξ (aS P (.prim .sset (.cons ma .nil)))) :=
 (xn (Y8 hc) mw nN (by first|exact gF|decide +kernel) (U1 (R8 (GW hc) hg hm (by first|exact iD|decide +kernel) (B5 hP ha (M1 hP) (by rw[hs];rfl)) (by decide) (by decide) (by rw[hs];rfl) rfl) sx)).imp λbN H Q aT=>by
  obtain⟨Z,g,ρ,s,R,h⟩:=aT;refine jc hP s R (.refl _ _) h λxs g1 bH H1 vs e1 R1 r1 h=>?_;obtain⟨d',g',⟨i,ns,rfl,hl,hz,rfl,rfl⟩,q⟩:=h;obtain⟨v,rfl,rv⟩:=r1.one;obtain⟨a',rfl,ra⟩:=rv.j4;obtain⟨ws,hq,rs⟩:=R1.items hl ra;obtain rfl:=rs.ints;refine⟨_,ns,rfl,hq,hz,λq' mq=>⟨q',ns,rfl,j6,hz,λp hp=>?_⟩⟩;exact(q.ext (e1.trans (u7 mq))).new (R1.grow mq) hp (b6.ofInts _)
theorem OE(hc:X.calm=true)(ha:PE X a (LE X.K Ξ (aS P ma)))(mw:Gl X "len")(nN:X.mg "len"=none)(hg:Gl X "set")(hm:X.mg "set"=none)(hs:starEach [a] X.env=[(false,eval a X.env)]) :
  PE X (.Call (.Name "len" p2) [.Call (.Name "set" q) [a] [] pos] [] jn) (LE X.K Ξ (aS P (.prim .V8 (.cons ma .nil)))) :=
 (xn Zj mw nN PySem.boot_len (U1 (R8 (GW hc) hg hm (by first|exact iD|decide +kernel) (B5 hP ha (M1 hP) (by rw[hs];rfl)) (by decide) (by decide) (by rw[hs];rfl) rfl) sx)).imp λbN H Q aT=>by
  obtain⟨Z,g,ρ,s,R,h⟩:=aT;refine jc hP s R (.refl _ _) h λxs g1 bH H1 vs e1 R1 r1 h=>?_;obtain⟨d',g',⟨i,ns,rfl,hl,hz,rfl,rfl⟩,q⟩:=h;obtain⟨v,rfl,rv⟩:=r1.one;obtain⟨a',rfl,ra⟩:=rv.j4;obtain⟨ws,hq,rs⟩:=R1.items hl ra;obtain rfl:=rs.ints;refine⟨_,ns,rfl,hq,by omega,λq' mq=>⟨q',_,rfl,j6,?_⟩⟩;exact(q.ext (e1.trans (u7 mq))).now (R1.grow mq) (.int _)
theorem OG{i:Int}{j:Nat}(mz:PySem.W.kdsCode X.K X.env.code=true):PE X (.Set [.Constant (.int i) j q] 0 pos) (LE X.K Ξ (aS P (.prim (.kG i) .nil))) :=
 (Of mz).imp λbN H Q aT=>by
  obtain⟨Z,g,ρ,s,R,h⟩:=aT;obtain⟨d',g',⟨_,rfl,rfl⟩,q⟩:=h;exact λp hp=>q (ρ++[p]) _ _ (A6 hp) (R.new hp (o:=.set (λk=>decide (k=i)) 1) (u:=.set (λk=>decide (k=i)) 1) ⟨rfl,rfl⟩) (.ref (R.t4 p))
theorem Md{f:Str}(ha:PE X a (LE X.K Ξ (aS P ma)))(hb:attributeBase a f X.env (eval a X.env)=eval a X.env):PE X (.Attribute a f pos) (LE X.K Ξ (aS P (.prim (.fld f) (.cons ma .nil)))) :=
 (VG ha hb).imp λbN H Q aT=>by
  obtain⟨Z,g,ρ,s,R,h⟩:=aT;refine eT hP s R (.refl _ _) h λx g1 bH H1 v1 e1 R1 r1 h=>?_;obtain⟨d',g',⟨i,c,fs,ex,hi,hf,rfl⟩,q⟩:=h;cases ex;obtain⟨a',rfl,ra⟩:=r1.j4;obtain⟨C,dx,vs,hH,_,hC,rk,na⟩:=R1.ins hi ra;have lk:=rk.look f;rw[hf] at lk;obtain⟨v,hv,rv⟩:=lk.some;exact⟨a',C,dx,vs,v,rfl,hH,hC,na _ (aK hf),hv,q bH H1 v e1 R1 rv⟩
end
section
variable{X:Cx}{pos:Pos}
theorem Mi{i:Nat}{x:Str}(hN:X.N[i]?=some x)(hv:vy X.env.scope x)(hd:(x==("__debug__":Str))=false)(lx:(x==("__classdict__":Str))=false):PE X (.Name x pos) (LE X.K Ξ (aS P (.var i))) :=
 (IY hN hv hd lx).imp λbN H Q aT=>by
  obtain⟨Z,g,ρ,s,R,h⟩:=aT;obtain⟨d,e,h⟩:=h;obtain⟨v,h1,h2⟩:=s.val _ _ e;exact⟨v,h1,h.now R h2⟩
theorem U9{e:Expr}{d:D}{v:V}(h:PE X e (tC v))(r:∀ρ H,f6 X.K ρ H d v):PE X e (LE X.K Ξ (aS P (.lit d))) :=
 h.imp λbN H Q aT=>by
  obtain⟨Z,g,ρ,s,R,h⟩:=aT;exact LQ.now h R (r ρ H)
theorem OB:PE X (.Dict [] [] pos) (LE X.K Ξ (aS P (.prim .T3 .nil))) :=
 (Qv (X:=X)).imp λbN H Q ⟨Z,g,ρ,s,R,h⟩ p hp=>by
  obtain⟨d',g',⟨_,rfl,rfl⟩,q⟩:=h;exact q (ρ++[p]) _ _ (A6 hp) (R.new hp (o:=.bO []) (u:=.dK []) i7.nil) (.ref (R.t4 p))
end
end M
namespace L2
open PySem PySem.Spec PyProof.Rows
section
variable{X:Cx}{m:Str}{pos apos:Pos}{e o:Expr}{es:List Expr}{ta:TE}{t:TA}
def MI(X:Cx)(m:Str)(E:XK)(ta:TE)(t:TA):TE:=λZ H Q=>ta Z H λx H1=>∃a C dx fs f fd ps k sp,x=.ref a/\H1 a=some (.ins C dx fs)/\fs.lookup m=none/\iQ X.K C/\Meth X.K C m f /\
 gy X.prog X.w X.K X.mg X.base (gN X.prog X.w) k f fd ps sp/\q8 k X.A/\Binds X.K fd ps []/\t Z H1 λvs H2=>sp (x::(vs++[])) H2 Q E
theorem Qz{pl:Sem Bool}{E:XK}(he:PE X o ta)(hx:Passes (gN X.prog X.w) X E)(ha:PA X (e::es) t)(eU:starEach (e::es) X.env=(false,eval e X.env)::starEach es X.env)(gj:(backTo pos (starEach es X.env)).any (·.1)=false)(ht:eval (.Call (.Attribute o m apos) (e :: es) [] pos) X.env=(do
   let ov <- eval o X.env
   standAt apos.atName
   let (f,first) <- holding [ov] (getMethod ov m pl)
   callWith pos f first (backTo pos (starEach (e :: es) X.env)) (backToKw pos (keywordEach [] X.env)))) :
  PE X (.Call (.Attribute o m apos) (e::es) [] pos) (MI X m E ta t):=by
 intro pins s Z H Q I h;refine vK (pl:=pl) (bZ (he pins s Z H _ I h) λu s1 aT=>?_) ht;obtain⟨x,H1,I1,rx,a,C,dx,fs,f,fd,ps,k,sp,ex,ea,l,c,hm,F,hr,hb,q⟩:=aT;subst ex;obtain rfl:u=Value.ref a:=rx;refine Gz I1 ea c hm l ?_;refine jF (first:=[.ref a]) (h₀:=X.base) I.ok.mod.mh hm.kp (bZ (ha pos pins s1 Z H1 _ I1 q) λus s2 ⟨vs,H2,I2,r,q2⟩=>⟨I2.fU,?_⟩) eU gj;exact wJ (us:=.ref a::us) (vs:=.ref a::vs) F hr hb .nil hx I2 (.cons rfl r) q2
def Pa(X:Cx)(m:Str)(E:XK)(ta:TE):TE:=λZ H Q=>ta Z H λx H1=>∃a C dx fs f fd ps k sp,x=.ref a/\H1 a=some (.ins C dx fs)/\fs.lookup m=none/\iQ X.K C/\Meth X.K C m f /\
 gy X.prog X.w X.K X.mg X.base (gN X.prog X.w) k f fd ps sp/\q8 k X.A/\Binds X.K fd ps []/\sp [x] H1 Q E
theorem a05{pl:Sem Bool}{E:XK}(he:PE X o ta)(hx:Passes (gN X.prog X.w) X E)(ht:eval (.Call (.Attribute o m apos) [] [] pos) X.env=(do
   let ov <- eval o X.env
   standAt apos.atName
   let (f,first) <- holding [ov] (getMethod ov m pl)
   callWith pos f first (backTo pos (starEach [] X.env)) (backToKw pos (keywordEach [] X.env)))) :
  PE X (.Call (.Attribute o m apos) [] [] pos) (Pa X m E ta):=by
 intro pins s Z H Q I h;refine vK (pl:=pl) (bZ (he pins s Z H _ I h) λu s1 aT=>?_) ht;obtain⟨x,H1,I1,rx,a,C,dx,fs,f,fd,ps,k,sp,ex,ea,l,c,hm,F,hr,hb,q⟩:=aT;subst ex;obtain rfl:u=Value.ref a:=rx;refine Gz I1 ea c hm l ?_;exact jh (first:=[.ref a]) I1.fU hm.kp (wJ (us:=[.ref a]) (vs:=[.ref a]) (dvs:=[]) F hr hb .nil hx I1 (.cons rfl .nil) q)
end
end L2
namespace M
open PySem L2 PySem.Spec PyProof.Rows
variable{K:PySem.W.Frag}{H H0:Hp}{neg:Bool}{a fa C:Addr}{x:Str}{p:Pos}{kvs xs:List D}{k f j:Nat}{fd:FuncData}{ps:List Str}{fO:List Addr}{vs:List V}{es:List Expr}{e:Expr}{fW:ME}
inductive oZ(K:PySem.W.Frag):List D->List (Str×V)->Prop
 |nil:oZ K [] []
 |cons {x:Str} {d:D} {v:V} {ds:List D} {vs:List (Str×V)} (h:∀ρ H,f6 K ρ H d v) (r:oZ K ds vs):oZ K (.tup [.str x,d]::ds) ((x,v)::vs)
theorem oZ.look{ρ:List Addr}{ds vs}(x:Str)(h:oZ K ds vs):qG K ρ H (R0 ds x) (vs.lookup x):=by
 induction h with
 |nil=>trivial
 |cons h r ih =>
  rename_i y d v ds vs;unfold R0;rw[cz];by_cases e:x=y
  ·rw[aG e,show(x==y)=true from by simp[e]];exact h ρ H
  ·rw[az e,show(x==y)=false from by simpa using e];exact ih
def xC(X:Cx)(x:Str)(kvs:List D):Prop:=∃A vs,X.mg x=some (.ref A)/\uK X.K X.w.params A vs/\oZ X.K kvs vs
def xH(neg:Bool):Pr:=if neg then .uu else .Ef
theorem HB:PR (xH neg)=Av neg:=by cases neg<;>rfl
theorem Xg(a b c:Str):a++b++c=a++(b++c):=by
 cases a;cases b;cases c;show Str.mk _=Str.mk _;exact dE Str.mk (Jl ..)
theorem OU(x:Str):x++Str.empty=x:=by cases x;show Str.mk _=_;simp[Str.empty]
theorem NO(x:Str):Str.empty++x=x:=by cases x;show Str.mk _=_;simp[Str.empty]
section
variable{X:Cx}{Ξ:gL}{P:eO}(hP:j5 P){a c:Expr}{ma:ME}{pos:Pos}
include hP
theorem Me(hg:Gl X x)(hd:(x==("__debug__":Str))=false)(hG:xC X x kvs)(ha:PE X a (LE X.K Ξ (aS P ma)))(hm:behindInMarks (if neg then .NotIn else .In) (.Name x p)=false) :
  PE X (.Compare a [if neg then .NotIn else .In] [.Name x p] pos) (LE X.K Ξ (aS P (.prim (xH neg) (.cons (.lit (.tup kvs)) (.cons ma .nil))))):=by
 obtain⟨A,vs,hmg,hk,gr⟩:=hG;refine(HM (IW (kvs:=vs) neg) ha (xa (v:=.ref A) hg hmg rfl hd) hm).imp λbN H Q aT=>?_;obtain⟨Z,g,ρ,s,R,h⟩:=aT;refine eT hP s R (.refl _ _) h λd g1 bH H1 v1 e1 R1 r1 h=>?_;obtain⟨d',g',h,q⟩:=h;rw[HB] at h;obtain⟨tm,z,ex,rfl,rfl⟩:=h;cases ex;obtain rfl:=r1.F4;refine⟨A,z,rfl,hk,rfl,?_⟩;rw[<- (gr.look (ρ:=bH) (H:=H1) z).isSome];exact q bH H1 _ e1 R1 (.bl _)
theorem Mu(hg:Gl X x)(hd:(x==("__debug__":Str))=false)(hG:xC X x kvs)(ha:PE X a (LE X.K Ξ (aS P ma)))(hm:behindInMarks (if neg then .NotIn else .In) (.Name x p)=false) :
  PT X (.Compare a [if neg then .NotIn else .In] [.Name x p] pos) (LT X.K Ξ (dw P (.dU (.prim (xH neg) (.cons (.lit (.tup kvs)) (.cons ma .nil)))))):=by
 obtain⟨A,vs,hmg,hk,gr⟩:=hG;refine(AO (IW (kvs:=vs) neg) ha (xa (v:=.ref A) hg hmg rfl hd) hm).imp λbN H Q aT=>?_;obtain⟨Z,g,ρ,s,R,h⟩:=aT;refine eT hP s R (.refl _ _) h λd g1 bH H1 v1 e1 R1 r1 h=>?_;obtain⟨d',g',h,t,ht,q⟩:=h;rw[HB] at h;obtain⟨tm,z,ex,rfl,rfl⟩:=h;cases ex;obtain rfl:=r1.F4;refine⟨A,z,rfl,hk,rfl,t,?_,q bH H1 e1 R1⟩;rw[<- (gr.look (ρ:=bH) (H:=H1) z).isSome];rcases ht with⟨z,_⟩|z|⟨i,z,_⟩|⟨l,z,_⟩|⟨a,l,z,_⟩<;>cases z
 rfl
theorem OD(hg:Gl X x)(hd:(x==("__debug__":Str))=false)(hG:xC X x kvs)(ha:PE X a (LE X.K Ξ (aS P ma)))(hs:AA a):PE X (.Subscript (.Name x p) a pos) (LE X.K Ξ (aS P (.prim .mF (.cons (.lit (.tup kvs)) (.cons ma .nil))))):=by
 obtain⟨A,vs,hmg,hk,gr⟩:=hG;refine(Fc (Tc (kvs:=vs)) (xa (v:=.ref A) hg hmg rfl hd) ha hs).imp λbN H Q aT=>?_;obtain⟨Z,g,ρ,s,R,h⟩:=aT;refine eT hP s R (.refl _ _) h λd g1 bH H1 v1 e1 R1 r1 h=>?_;obtain⟨d',g',⟨tm,z,ex,hz,rfl⟩,q⟩:=h;cases ex;obtain rfl:=r1.F4;have lk:=gr.look (ρ:=bH) (H:=H1) z;rw[hz] at lk;obtain⟨w,hw,lk⟩:=lk.some;exact⟨A,z,w,rfl,hk,rfl,hw,q bH H1 _ e1 R1 lk⟩
theorem Ug(ha:PE X a (LE X.K Ξ (aS P ma))):PE X (.FormattedValue a (-1) none pos) (LE X.K Ξ (aS P (.prim .fv (.cons ma .nil)))) :=
 (TL ha).imp λbN H Q aT=>by
  obtain⟨Z,g,ρ,s,R,h⟩:=aT;refine eT hP s R (.refl _ _) h λd g1 bH H1 v1 e1 R1 r1 h=>?_;obtain⟨d',g',⟨rfl,h⟩,q⟩:=h;rcases h with⟨i,ex,h1,rfl⟩|⟨z,ex,h1,rfl⟩
  ·cases ex;exact .inl ⟨i,r1.j7,h1,q bH H1 _ e1 R1 (.str _)⟩
  ·cases ex;exact .inr ⟨z,r1.F4,m5 (by omega),q bH H1 _ e1 R1 (.str _)⟩
omit hP in
inductive lK(X:Cx)(Ξ:gL)(P:eO):List Expr->ME->List TE->Prop
 |nil:lK X Ξ P [] .nil []
 |lit {x:Str} {j:Nat} {p:Pos} {es:List Expr} {ms:ME} {ts:List TE} (hx:x.length<=2000) (r:lK X Ξ P es ms ts):lK X Ξ P (.Constant (.str x) j p::es) (.cons (.lit (.str x)) ms) (LE X.K Ξ (aS P (.lit (.str x)))::ts)
 |val {e:Expr} {m:ME} {p:Pos} {es:List Expr} {ms:ME} {ts:List TE} (he:PE X e (LE X.K Ξ (aS P m))) (r:lK X Ξ P es ms ts):lK X Ξ P (.FormattedValue e (-1) none p::es) (.cons (.prim .fv (.cons m .nil)) ms) (LE X.K Ξ (aS P (.prim .fv (.cons m .nil)))::ts)
theorem lK.JU{es ms ts}(h:lK X Ξ P es ms ts):sA X es ts:=by
 induction h with
 |nil=>exact .nil
 |lit hx r ih=>exact .cons (U9 IX λ_ _=>.str _) ih
 |val he r ih=>exact .cons (Ug hP he) ih
theorem lK.join{bN:L2.St}{Q:Str->Hp->Prop}{es ms ts}(hf:lK X Ξ P es ms ts):∀{Z:S} {g:G} {ρ:List Addr} {H:Hp} {acc:Str},acc.length+2000*es.length<=100000->m9 X.K ρ H Z bN->Rl X.K ρ g H ->
  fe P ms Z g (λds g1=>∃x,qL ds=some x/\∀bB H',Ext ρ H bB H'->Rl X.K bB g1 H'->Q (acc++x) H') (LX X.K ρ H Ξ)->xQ ts bN H acc (λout H1=>out.length<=sizeLine/\Q out H1):=by
 have tl:∀{acc y:Str} {ρ:List Addr} {H:Hp} {bH:List Addr} {H1:Hp} {ds:List D} {g1:G},Ext ρ H bH H1->(∃x,qL (.str y::ds)=some x/\∀bB H',Ext ρ H bB H'->Rl X.K bB g1 H'->Q (acc++x) H')->∃x,qL ds=some x/\∀bB H',Ext bH H1 bB H'->Rl X.K bB g1 H'->Q (acc++y++x) H':=by
  intro acc y ρ H bH H1 ds g1 e1 h;obtain⟨x,hx,h⟩:=h;simp only[qL] at hx;cases hj:qL ds with
  |none=>rw[hj] at hx;cases hx
  |some x' =>
   rw[hj] at hx;cases hx;refine⟨x',rfl,λbB H' e' R'=>?_⟩;rw[Xg];exact h bB H' (e1.trans e') R'
 induction hf with
 |nil =>
  intro Z g ρ H acc ha s R h;obtain⟨x,hx,h⟩:=h;cases hx;rw[OU] at h;exact⟨m5 (by simpa using ha),h ρ H (.refl _ _) R⟩
 |lit hx r ih =>
  rename_i y j p es ms ts;intro Z g ρ H acc ha s R h;refine⟨Z,g,ρ,s,R,?_⟩;intro bH H1 v1 e1 R1 r1;obtain rfl:=r1.F4;have hl:(acc++y).length<=acc.length+2000:=by rw[strLen_append];omega
  simp only[List.length_cons] at ha;exact⟨y,rfl,m5 (by omega),ih (by omega) (s.ext e1) R1 (v5 hP _ _ _ _ _ _ _ (λds g1 h=>tl e1 h) (λ_ _ z=>LX.ext e1 z) h)⟩
 |val he r ih =>
  rename_i e m p es ms ts;intro Z g ρ H acc ha s R h;refine⟨Z,g,ρ,s,R,?_⟩;simp only[List.length_cons] at ha;refine b8 hP m _ _ _ _ _ _ (λd g1 h=>?_) (λ_ _ z=>z) h;obtain⟨d',g',⟨rfl,h⟩,q⟩:=h;have hy:∃y,d'=.str y/\y.length<=2000:=by
   rcases h with⟨i,ex,h1,rfl⟩|⟨z,ex,h1,rfl⟩
   ·exact⟨_,rfl,by rw[PySem.ofString_length];have:=int_text_length_le (k:=1920) (by decide) h1;omega⟩
   ·exact⟨z,rfl,h1⟩
  obtain⟨y,rfl,hy⟩:=hy;refine⟨_,_,⟨rfl,h⟩,λbH H1 v1 e1 R1 r1=>?_⟩;obtain rfl:=r1.F4;have hl:(acc++y).length<=acc.length+2000:=by rw[strLen_append];omega
  exact⟨y,rfl,m5 (by omega),ih (by omega) (s.ext e1) R1 (v5 hP _ _ _ _ _ _ _ (λds g1 h=>tl e1 h) (λ_ _ z=>LX.ext e1 z) q)⟩
theorem OC{kW kU:Expr}{rest:List Expr}{ms:ME}{ts:List TE}(h:lK X Ξ P (kW::kU::rest) ms ts)(hl:(kW::kU::rest).length<=40):PE X (.JoinedStr (kW::kU::rest) pos) (LE X.K Ξ (aS P (.prim .mG ms))) :=
 (Oc (h.JU hP)).imp λbN H Q aT=>by
  obtain⟨Z,g,ρ,s,R,hw⟩:=aT;refine lK.join hP h (Q:=λout H1=>Q (.str out) H1) (acc:=Str.empty) ?_ s R (v5 hP ms _ _ _ _ _ _ (λds g1 hw=>?_) (λ_ _ z=>z) hw)
  ·have:Str.empty.length=0:=rfl;omega
  ·obtain⟨d',g',⟨x,hx,rfl,rfl⟩,q⟩:=hw;refine⟨x,hx,λbB H' e' R'=>?_⟩;rw[NO];exact q bB H' _ e' R' (.str _)
omit hP in
def oG(ex:List Str)(K:PySem.W.Frag)(n:Nat)(t:List D->G->KD->KX->Prop):Sp:=λvs H Q E=>vs.length=n/\∃ds g ρ,b6 K ρ H ds vs/\Rl K ρ g H/\t ds g (LQ K ρ H Q) (LX K ρ H (ex,E))
omit hP in
def ni(X:Cx)(P:eO)(ex:List Str)(k f:Nat)(fa:Addr)(fd:FuncData)(ps:List Str):Prop :=
 gy X.prog X.w X.K X.mg X.base (gN X.prog X.w) k fa fd ps (oG ex X.K ps.length (P f))/\Binds X.K fd ps []/\∀ds g Q E,P f ds g Q E->ds.length=ps.length
theorem uU{k:Nat}(F:ni X P Ξ.1 k f fa fd ps){ρ:List Addr}{g:G}{Q0:KD}{Q:VK}(e0:Ext fO H0 ρ H)(R:Rl X.K ρ g H)(r:b6 X.K ρ H xs vs)(h:P f xs g Q0 (LX X.K fO H0 Ξ))(k:∀d g',Q0 d g'->LQ X.K ρ H Q d g'):oG Ξ.1 X.K ps.length (P f) (vs++[]) H Q Ξ.2:=by
 rw[fJ];exact⟨by rw[<- r.length];exact F.2.2 _ _ _ _ h,xs,g,ρ,r,R,hP _ _ _ _ _ _ _ k (λ_ _ z=>LX.ext e0 z) h⟩
theorem Oz(hx:Passes (gN X.prog X.w) X Ξ.2)(F:ni X P Ξ.1 k f fa fd ps)(hr:q8 k X.A)(hg:Gl X x)(hm:X.mg x=some (.ref fa))(hk:PySem.W.keepIn X.K (.ref fa)=true)(ha:PA X (e::es) (LA X.K Ξ (fe P fW)))(hd:(x==("__debug__":Str))=false)(eU:starEach (e::es) X.env=(false,eval e X.env)::starEach es X.env)(gj:(backTo pos (starEach es X.env)).any (·.1)=false):PE X (.Call (.Name x p) (e::es) [] pos) (LE X.K Ξ (aS P (.call f fW))) :=
 (Oa F.1 hr hg hm hk F.2.1 .nil hx ha hd eU gj).imp λbN H Q aT=>by
  obtain⟨Z,g,ρ,s,R,h⟩:=aT;exact jc hP s R (.refl _ _) h λxs g1 bH H1 vs e1 R1 r1 h=>uU hP F e1 R1 r1 h λd g' h=>h.ext e1
theorem Zx(hx:Passes (gN X.prog X.w) X Ξ.2)(F:ni X P Ξ.1 k f fa fd ps)(hr:q8 k X.A)(hg:Gl X x)(hm:X.mg x=some (.ref fa))(hk:PySem.W.keepIn X.K (.ref fa)=true)(hd:(x==("__debug__":Str))=false):PE X (.Call (.Name x p) [] [] pos) (LE X.K Ξ (aS P (.call f .nil))) :=
 (Qs F.1 hr hg hm hk F.2.1 .nil hx hd).imp λbN H Q aT=>by
  obtain⟨Z,g,ρ,s,R,h⟩:=aT;exact uU hP F (.refl _ _) R .nil h λd g' h=>h
theorem HH{c:Str}(F:ni X P Ξ.1 k f fa fd ps)(hC:p7 X.K c C)(hc:iQ X.K C){ρ:List Addr}{g1:G}{Q:VK}(e0:Ext fO H0 ρ H)(R:Rl X.K ρ g1 H)(r:b6 X.K ρ H xs vs)(h:P f (.ref g1.length::xs) (g1++[.ins c []]) (λd g2=>d=.bf/\LQ X.K fO H0 Q (.ref g1.length) g2) (LX X.K fO H0 Ξ)):∀x dx,H x=none->H dx=none->dx≠x->oG Ξ.1 X.K ps.length (P f) (.ref x::(vs++[])) (upd (upd H dx (.own x)) x (.ins C dx [])) (λv H2=>v=.bf/\Q (.ref x) H2) Ξ.2:=by
 intro x dx hx DV fk;have DH:upd H dx (.own x) x=none:=by rw[d0 (aZ fk)];exact hx
 have R2:=R.grow (o:=.own x) DV;have e2:Ext ρ H ρ (upd H dx (.own x)):=u7 DV;have R3:=R2.new (o:=.ins c []) (u:=.ins C dx []) DH ⟨hC,hc,.nil,λx hx=>absurd hx (by simp)⟩;have e3:Ext ρ (upd H dx (.own x)) (ρ++[x]) (upd (upd H dx (.own x)) x (.ins C dx [])):=A6 DH;have:=uU hP F (e0.trans (e2.trans e3)) R3 (.cons (.ref (R.t4 x)) (r.ext (e2.trans e3))) h (Q:=λv H2=>v=.bf/\Q (.ref x) H2) λd g' q bB H' v e' R' r'=>by
  obtain⟨rfl,q⟩:=q;exact⟨r'.wI,q bB H' _ (e0.trans (e2.trans (e3.trans e'))) R' (.ref (e'.get (R.t4 x)))⟩
 exact this
theorem OF(hx:Passes (gN X.prog X.w) X Ξ.2)(F:ni X P Ξ.1 k f fa fd ps)(M:Mk X.K C fa)(hC:p7 X.K x C)(hc:iQ X.K C)(hr:q8 (k+1) X.A)(hg:Gl X x)(hm:X.mg x=some (.ref C))(ha:PA X (e::es) (LA X.K Ξ (fe P fW)))(hd:(x==("__debug__":Str))=false)(eU:starEach (e::es) X.env=(false,eval e X.env)::starEach es X.env)(gj:(backTo pos (starEach es X.env)).any (·.1)=false):PE X (.Call (.Name x p) (e::es) [] pos) (LE X.K Ξ (aS P (.make x f fW))) :=
 (Od M F.1 hr hg hm F.2.1 .nil hx ha hd eU gj).imp λbN H Q aT=>by
  obtain⟨Z,g,ρ,s,R,h⟩:=aT;exact jc hP s R (.refl _ _) h λxs g1 bH H1 vs e1 R1 r1 h=>HH hP F hC hc e1 R1 r1 h
theorem ZD(hx:Passes (gN X.prog X.w) X Ξ.2)(F:ni X P Ξ.1 k f fa fd ps)(M:Mk X.K C fa)(hC:p7 X.K x C)(hc:iQ X.K C)(hr:q8 (k+1) X.A)(hg:Gl X x)(hm:X.mg x=some (.ref C))(hd:(x==("__debug__":Str))=false):PE X (.Call (.Name x p) [] [] pos) (LE X.K Ξ (aS P (.make x f .nil))) :=
 (Qy M F.1 hr hg hm F.2.1 .nil hx hd).imp λbN H Q aT=>by
  obtain⟨Z,g,ρ,s,R,h⟩:=aT;exact HH hP F hC hc (.refl _ _) R .nil h
omit hP in
def Az(X:Cx)(P:eO)(ex:List Str)(m:Str)(cs:List (Str×Nat)):Prop:=∀c f C,cs.lookup c=some f->p7 X.K c C->∃k fa fd ps,Meth X.K C m fa/\ni X P ex k f fa fd ps/\q8 k X.A
theorem ZF{m:Str}{cs:List (Str×Nat)}{o:Expr}{mo:ME}{apos:Pos}{pl:Sem Bool}(hx:Passes (gN X.prog X.w) X Ξ.2)(hM:Az X P Ξ.1 m cs)(ho:PE X o (LE X.K Ξ (aS P mo)))(ha:PA X (e::es) (LA X.K Ξ (fe P fW)))(eU:starEach (e::es) X.env=(false,eval e X.env)::starEach es X.env)(gj:(backTo pos (starEach es X.env)).any (·.1)=false)(ht:eval (.Call (.Attribute o m apos) (e :: es) [] pos) X.env=(do
   let ov <- eval o X.env
   standAt apos.atName
   let (f,first) <- holding [ov] (getMethod ov m pl)
   callWith pos f first (backTo pos (starEach (e :: es) X.env)) (backToKw pos (keywordEach [] X.env)))):PE X (.Call (.Attribute o m apos) (e :: es) [] pos) (LE X.K Ξ (aS P (.bx m cs mo fW))) :=
 (Qz ho hx ha eU gj ht).imp λbN H Q aT=>by
  obtain⟨Z,g,ρ,s,R,h⟩:=aT;refine eT hP s R (.refl _ _) h λx g1 bH H1 v1 e1 R1 r1 h=>?_;obtain⟨i,c,fs,f,rfl,hi,hf,mT,h⟩:=h;obtain⟨a',rfl,ra⟩:=r1.j4;obtain⟨C,dx,vs,hH,hC,iq,rk,na⟩:=R1.ins hi ra;obtain⟨k,fa,fd,ps,M,F,hr⟩:=hM c f C mT hC;have lk:=rk.look m;rw[hf] at lk;have hl:vs.lookup m=none:=by cases e:vs.lookup m with|none=>rfl|some w=>rw[e] at lk;exact lk.elim
  refine⟨a',C,dx,vs,fa,fd,ps,k,_,rfl,hH,hl,iq,M,F.1,hr,F.2.1,?_⟩;exact jc hP (s.ext e1) R1 e1 h λxs g2 eA H2 ws e2 R2 r2 h=>uU hP F (e1.trans e2) R2 (.cons (.ref (e2.get ra)) r2) h λd g' h=>h.ext (e1.trans e2)
theorem Xd{m:Str}{cs:List (Str×Nat)}{o:Expr}{mo:ME}{apos:Pos}{pl:Sem Bool}(hx:Passes (gN X.prog X.w) X Ξ.2)(hM:Az X P Ξ.1 m cs)(ho:PE X o (LE X.K Ξ (aS P mo)))(ht:eval (.Call (.Attribute o m apos) [] [] pos) X.env=(do
   let ov <- eval o X.env
   standAt apos.atName
   let (f,first) <- holding [ov] (getMethod ov m pl)
   callWith pos f first (backTo pos (starEach [] X.env)) (backToKw pos (keywordEach [] X.env)))):PE X (.Call (.Attribute o m apos) [] [] pos) (LE X.K Ξ (aS P (.bx m cs mo .nil))) :=
 (a05 ho hx ht).imp λbN H Q aT=>by
  obtain⟨Z,g,ρ,s,R,h⟩:=aT;refine eT hP s R (.refl _ _) h λx g1 bH H1 v1 e1 R1 r1 h=>?_;obtain⟨i,c,fs,f,rfl,hi,hf,mT,h⟩:=h;obtain⟨a',rfl,ra⟩:=r1.j4;obtain⟨C,dx,vs,hH,hC,iq,rk,na⟩:=R1.ins hi ra;obtain⟨k,fa,fd,ps,M,F,hr⟩:=hM c f C mT hC;have lk:=rk.look m;rw[hf] at lk;have hl:vs.lookup m=none:=by cases e:vs.lookup m with|none=>rfl|some w=>rw[e] at lk;exact lk.elim
  exact⟨a',C,dx,vs,fa,fd,ps,k,_,rfl,hH,hl,iq,M,F.1,hr,F.2.1,uU hP F e1 R1 (.cons (.ref ra) .nil) h λd g' h=>h.ext e1⟩
end
inductive jV(K:PySem.W.Frag)(ρ:List Addr)(H:Hp):List D->List (V×V)->Prop
 |nil:jV K ρ H [] []
 |cons {k d:D} {x y:V} {ds:List D} {ps:List (V×V)} (h1:f6 K ρ H k x) (h2:f6 K ρ H d y) (r:jV K ρ H ds ps):jV K ρ H (k::d::ds) ((x,y)::ps)
theorem UR{K ρ H}{ps:List (V×V)}(r:jV K ρ H xs ps):∀{acc kvs:List (Key×D)} {accV:List (Key×V)},rO xs acc=some kvs->i7 K ρ H acc accV->∃more:List (Key×V),ps=more.map (λkv=>(kV kv.1,kv.2))/\2*more.length=xs.length/\i7 K ρ H kvs (V3 accV more):=by
 induction r with
 |nil =>
  intro acc kvs accV h ra;cases h;exact⟨[],rfl,rfl,ra⟩
 |cons h1 h2 r ih =>
  rename_i k d x y ds ps;intro acc kvs accV h ra;simp only[rO] at h;cases hk:W0 k with
  |none=>rw[hk] at h;cases h
  |some c =>
   rw[hk] at h;obtain⟨more,e1,e2,r2⟩:=ih (show rO ds (putD acc c d)=some kvs from h) (ra.put h2);have ex:=P9 hk h1;subst ex;refine⟨(c,y)::more,by rw[bc,<- e1],by simp only[List.length_cons];omega,r2⟩
section
variable{X:Cx}{Ξ:gL}{P:eO}(hP:j5 P){pos:Pos}
inductive lL(X:Cx)(Ξ:gL)(P:eO):List (Option Expr)->List Expr->ME->List (TE×TE)->Prop
 |nil:lL X Ξ P [] [] .nil []
 |cons {k v:Expr} {ks:List (Option Expr)} {vs:List Expr} {mk mv ms:ME} {hX:List (TE×TE)} (hk:PE X k (LE X.K Ξ (aS P mk))) (hv:PE X v (LE X.K Ξ (aS P mv))) (r:lL X Ξ P ks vs ms hX) :
   lL X Ξ P (some k::ks) (v::vs) (.cons mk (.cons mv ms)) ((LE X.K Ξ (aS P mk),LE X.K Ξ (aS P mv))::hX)
theorem lL.JT{ks vs ms hX}(h:lL X Ξ P ks vs ms hX):vC X pos ks vs hX:=by
 induction h with
 |nil=>exact Oj
 |cons hk hv r ih=>exact Zq hk hv ih
theorem lL.len{ks vs ms hX}(h:lL X Ξ P ks vs ms hX):ks.all (·.isSome)=true/\ks.length=vs.length:=by
 induction h with
 |nil=>exact⟨rfl,rfl⟩
 |cons hk hv r ih=>exact⟨by simpa using ih.1,by simp[ih.2]⟩
include hP
theorem lL.pairs{ks vs ms hX}(hd:lL X Ξ P ks vs ms hX):∀{bN:L2.St} {Z:S} {g:G} {ρ fO:List Addr} {H H0:Hp} {Qd:List D->G->Prop} {Q:List (V×V)->Hp->Prop},m9 X.K ρ H Z bN->Rl X.K ρ g H->Ext fO H0 ρ H->fe P ms Z g Qd (LX X.K fO H0 Ξ) ->
  (∀ds g' bB H' ps,Ext ρ H bB H'->Rl X.K bB g' H'->jV X.K bB H' ds ps->Qd ds g'->Q ps H')->wK hX bN H Q:=by
 induction hd with
 |nil =>
  intro bN Z g ρ fO H H0 Qd Q s R e0 h k;exact k [] g ρ H [] (.refl _ _) R .nil h
 |cons hk hv r ih =>
  intro bN Z g ρ fO H H0 Qd Q s R e0 h k;refine eT hP s R e0 h λx g1 bH H1 v1 e1 R1 r1 h=>eT hP (s.ext e1) R1 (e0.trans e1) h λy g2 eA H2 v2 e2 R2 r2 h=>?_;refine ih (s.ext (e1.trans e2)) R2 (e0.trans (e1.trans e2)) h λds g' bB H' ps e' R' rp hq=>?_;exact k _ g' bB H' _ (e1.trans (e2.trans e')) R' (.cons (r1.ext (e2.trans e')) (r2.ext e') rp) hq
theorem Mc{ks:List (Option Expr)}{vs:List Expr}{ms:ME}{hX:List (TE×TE)}(hd:lL X Ξ P ks vs ms hX)(h0:ks≠[])(zV:ks.length<=15):PE X (.Dict ks vs pos) (LE X.K Ξ (aS P (.ng ms))) :=
 (Ob hd.JT hd.len.1 hd.len.2 h0 zV).imp λbN H Q ⟨Z,g,ρ,s,R,h⟩ p hp=>by
  have e1:Ext ρ H (ρ++[p]) (upd H p (.dK [])):=A6 hp;refine lL.pairs hP hd (s.ext e1) (R.new hp (o:=.bO []) (u:=.dK []) i7.nil) e1 h λds g2 eA H2 ps e2 R2 rp hq=>?_;obtain⟨kvs,hk,hz,hg,q⟩:=hq;have oK:eA[g.length]?=some p:=e2.get (R.t4 p);obtain⟨vs',hv,rv⟩:=R2.bO hg oK;cases rv;obtain⟨more,em,hl,rk⟩:=UR rp hk (accV:=[]) .nil;refine⟨hv,more,em,by omega,?_⟩;obtain⟨R3,e3⟩:=R2.put (o':=.bO kvs) (u:=.dK (V3 [] more)) hg rfl oK rk;exact q eA _ _ (e1.trans (e2.trans e3)) R3 (.ref oK)
end
theorem Th{l:List D}(ht:TupAt K H0 a vs)(rs:b6 K fO H0 l vs):Z8 K fO H0 (.fix l) (CK K a):=by
 intro ρ g H e R i;have tG:=ht.ext e;have Dn:=rs.ext e;refine⟨λh=>⟨vs,tG.sq,?_⟩,λd h=>?_⟩
 ·simp only[IK.at] at h;have:=cU.mp (aF h);rw[<- Dn.length];exact this
 ·simp only[IK.at] at h;obtain⟨v,hv,rv⟩:=Dn.get (aF h);refine⟨⟨vs,v,tG.sq,hv⟩,λw H' y=>?_⟩;obtain⟨rfl,y⟩:=y;have:=y vs tG.sq;rw[hv] at this;cases this;exact⟨.refl _ _,R,rv⟩
theorem Tf(ha:fO[j]?=some a):Z8 K fO H0 (.lst j) (CL K a):=by
 intro ρ g H e R i;have ly:=e.get ha;refine⟨λh=>?_,λd h=>?_⟩
 ·simp only[IK.at] at h;cases el:d7 g j with
  |none=>rw[el] at h;cases h
  |some l =>
   rw[el] at h;obtain⟨vs,hq,rs⟩:=R.items el ly;refine⟨vs,hq,?_⟩;have:=cU.mp (aF h);rw[<- rs.length];exact this
 ·simp only[IK.at] at h;cases el:d7 g j with
  |none=>rw[el] at h;cases h
  |some l =>
   rw[el] at h;obtain⟨vs,hq,rs⟩:=R.items el ly;obtain⟨v,hv,rv⟩:=rs.get (aF h);refine⟨⟨vs,v,hq,hv⟩,λw H' y=>?_⟩;obtain⟨rfl,y⟩:=y;have:=y vs hq;rw[hv] at this;cases this;exact⟨.refl _ _,R,rv⟩
theorem EW{lo:Int}{n:Nat}:Z8 K fO H0 (.fix (A4 lo n)) (vF lo n):=by
 unfold A4;intro ρ g H e R i;refine⟨λh=>?_,λd h=>?_⟩
 ·simp only[IK.at] at h;have:=cU.mp (aF h);show n<=i;simpa using this
 ·simp only[IK.at] at h;have h:=aF h;have hi:i<n:=by
   have:=(aD.mp h).1;simpa using this
  rw[aB,CV hi] at h;cases h;refine⟨hi,λw H' y=>?_⟩;obtain⟨rfl,rfl⟩:=y;exact⟨.refl _ _,R,.int _⟩
theorem Tg{n:Nat}(ha:fO[j]?=some a):Z8 K fO H0 (.vV j n) (CJ K a n):=by
 intro ρ g H e R i;have ly:=e.get ha;refine⟨λh=>?_,λd h=>?_⟩
 ·simp only[IK.at] at h;cases el:d7 g j with
  |none=>rw[el] at h;cases h
  |some l =>
   rw[el] at h;dsimp only at h;by_cases hl:l.length=n
   ·rw[aG hl] at h;have h:=aF h;by_cases hi:i<n
    ·rw[aG hi] at h;have:=cU.mp h;omega
    ·exact kS hi
   ·rw[az hl] at h;cases h
 ·simp only[IK.at] at h;cases el:d7 g j with
  |none=>rw[el] at h;cases h
  |some l =>
   rw[el] at h;dsimp only at h;by_cases hl:l.length=n
   ·rw[aG hl] at h;have h:=aF h;by_cases hi:i<n
    ·rw[aG hi] at h;obtain⟨vs,hq,rs⟩:=R.items el ly;obtain⟨v,hv,rv⟩:=rs.get h;refine⟨⟨vs,v,hq,by rw[<- rs.length];exact hl,hi,hv⟩,λw H' y=>?_⟩;obtain⟨rfl,y⟩:=y;have:=y vs hq;rw[hv] at this;cases this;exact⟨.refl _ _,R,rv⟩
    ·rw[az hi] at h;cases h
   ·rw[az hl] at h;cases h
theorem Te(ha:fO[j]?=some a):Z8 K fO H0 (.ql j) (CM K a):=by
 intro ρ g H e R i;have ly:=e.get ha;refine⟨λh=>?_,λd h=>?_⟩
 ·simp only[IK.at] at h;cases el:d7 g j with
  |none=>rw[el] at h;cases h
  |some l =>
   rw[el] at h;obtain⟨vs,hq,rs⟩:=R.items el ly;refine⟨vs,hq,?_⟩;have h:=aF h;rw[Option.map_eq_none_iff] at h;have:=cU.mp h;rw[<- rs.length];exact this
 ·simp only[IK.at] at h;cases el:d7 g j with
  |none=>rw[el] at h;cases h
  |some l =>
   rw[el] at h;obtain⟨vs,hq,rs⟩:=R.items el ly;have h:=aF h;rw[ae] at h;obtain⟨d',hd,rfl⟩:=h;obtain⟨v,hv,rv⟩:=rs.get hd;refine⟨⟨vs,v,hq,hv⟩,λw H' y=>?_⟩;obtain⟨p,x,hp,rfl,y,rfl⟩:=y;have:=y vs hq;rw[hv] at this;cases this;exact⟨u7 hp,R.grow hp,.tup (.inl j6) (.cons (.int _) (.cons (rv.ext (u7 hp)) .nil))⟩
end M
namespace L2
open PySem PySem.Spec PyProof.Rows
theorem VQ{X:Cx}{tg l:Expr}{tl:TE}(hl:PE X l tl):PI X tg l (λZ H R=>tl Z H λx H1=>(∃a,x=.ref a/\(∃xs,ft X.K H1 a xs)/\R (CL X.K a) H1)\/(∃a,x=.ref a/\(∃xs,gS X.K H1 a xs)/\R (CK X.K a) H1)):=by
 intro pins s Z H R I h;refine bZ (hl pins s Z H _ I h) λv s1 aT=>?_;obtain⟨x,H1,I1,r1,q1⟩:=aT;rcases q1 with⟨a,e,⟨xs,hq⟩,q⟩|⟨a,e,⟨xs,hq⟩,q⟩
 ·subst e;cases r1;obtain⟨aO,rv,p,hz⟩:=I1.list hq;refine iu p.isList ?_;refine⟨s1.heap.objs.size,[s1.heap.objs.size],_,_,H1,rfl,I1.kept (t':=s1.toks) λb o e=>ah _ e,Xl a _,⟨_,aw _ rfl,rfl,rfl⟩,λb hb=>?_,q⟩;have e:b=s1.heap.objs.size:=by simpa using hb
  subst e;exact I1.nY (aj _) (I1.bw.fresh (aj _))
 ·subst e;cases r1;obtain⟨aO,rv,p,hz⟩:=I1.tuple hq;refine wpAny_pyIter_tuple (show s1.heap.IsTuple a aO.toArray from p) ?_;refine⟨s1.heap.objs.size,[s1.heap.objs.size],_,_,H1,rfl,I1.kept (t':=s1.toks) λb o e=>ah _ e,Ye a _,⟨_,aw _ rfl,rfl,rfl⟩,λb hb=>?_,q⟩;have e:b=s1.heap.objs.size:=by simpa using hb
  subst e;exact I1.nY (aj _) (I1.bw.fresh (aj _))
end L2
namespace M
open PySem L2 PySem.Spec PyProof.Rows
variable{X:Cx}{tg o:Expr}{pos p tp:Pos}{i:Nat}{x f:Str}{t:MT}{mo mi:ME}{cs:List Str}
section
variable{Ξ:gL}{P:eO}(hP:j5 P){a b:Expr}{ma mb:ME}
include hP
theorem Mn(ha:PE X a (LE X.K Ξ (aS P ma))):PI X tg a (LI X.K Ξ (gH P (.eR ma))) :=
 (VQ ha).imp λbN H R aT=>by
  obtain⟨Z,g,ρ,s,Rr,h⟩:=aT;refine eT hP s Rr (.refl _ _) h λx g1 bH H1 v1 e1 R1 r1 h=>?_;rcases h with⟨l,rfl,h⟩|⟨i,l,rfl,hl,h⟩
  ·obtain⟨a',vs,rfl,ht,rs⟩:=r1.E3;exact .inr ⟨_,rfl,⟨_,ht.sq⟩,h bH H1 _ e1 R1 (Th ht rs)⟩
  ·obtain⟨a',rfl,ly⟩:=r1.j4;obtain⟨vs,hq,rs⟩:=R1.items hl ly;exact .inl ⟨_,rfl,⟨_,hq⟩,h bH H1 _ e1 R1 (Tf ly)⟩
theorem ON{elts:List Expr}{x1:Nat}(ha:PE X a (LE X.K Ξ (aS P ma)))(hg:Gl X "enumerate")(hm:X.mg "enumerate"=none)(hs:starEach [a] X.env=[(false,eval a X.env)]):PI X (.Tuple elts x1 tp) (.Call (.Name "enumerate" p) [a] [] pos) (LI X.K Ξ (gH P (.kl ma))) :=
 (Oh hg hm (B5 hP ha (M1 hP) (by rw[hs];rfl)) hs).imp λbN H R aT=>by
  obtain⟨Z,g,ρ,s,Rr,h⟩:=aT;refine jc hP (m:=.cons ma .nil) s Rr (.refl _ _) (Q0:=λxs g1=>∃a l,xs=[.ref a]/\d7 g1 a=some l/\∀bB H' J,Ext ρ H bB H'->Rl X.K bB g1 H'->Z8 X.K bB H' (.ql a) J->R J H') ?_ λxs g1 bH H1 vs e1 R1 r1 h=>?_
  ·skip
   exact b8 hP ma _ _ _ _ _ _ (λx g1 ⟨i,l,e,hl,h⟩=>⟨i,l,by rw[e],hl,h⟩) (λ_ _ z=>z) h
  ·obtain⟨j,l,rfl,hl,h⟩:=h;obtain⟨v,rfl,rv⟩:=r1.one;obtain⟨a',rfl,ra⟩:=rv.j4;obtain⟨vs,hq,rs⟩:=R1.items hl ra;exact⟨_,rfl,⟨_,hq⟩,h bH H1 _ e1 R1 (Te ra)⟩
theorem Mm(ha:PE X a (LE X.K Ξ (aS P ma)))(hg:Gl X "reversed")(hm:X.mg "reversed"=none)(hs:starEach [a] X.env=[(false,eval a X.env)]):PI X tg (.Call (.Name "reversed" p) [a] [] pos) (LI X.K Ξ (gH P (.nF ma))) :=
 (VP hg hm (B5 hP ha (M1 hP) (by rw[hs];rfl)) hs).imp λbN H R aT=>by
  obtain⟨Z,g,ρ,s,Rr,h⟩:=aT;refine jc hP (m:=.cons ma .nil) s Rr (.refl _ _) (Q0:=λxs g1=>∃a l,xs=[.ref a]/\d7 g1 a=some l/\∀bB H' J,Ext ρ H bB H'->Rl X.K bB g1 H'->Z8 X.K bB H' (.vV a l.length) J->R J H') ?_ λxs g1 bH H1 vs e1 R1 r1 h=>?_
  ·skip
   exact b8 hP ma _ _ _ _ _ _ (λx g1 ⟨i,l,e,hl,h⟩=>⟨i,l,by rw[e],hl,h⟩) (λ_ _ z=>z) h
  ·obtain⟨j,l,rfl,hl,h⟩:=h;obtain⟨v,rfl,rv⟩:=r1.one;obtain⟨a',rfl,ra⟩:=rv.j4;obtain⟨vs,hq,rs⟩:=R1.items hl ra;exact⟨_,vs,rfl,hq,h bH H1 _ e1 R1 (by rw[rs.length];exact Tg ra)⟩
theorem OO(ha:PE X a (LE X.K Ξ (aS P ma)))(hg:Gl X "range")(hm:X.mg "range"=none)(hs:starEach [a] X.env=[(false,eval a X.env)]):PI X tg (.Call (.Name "range" p) [a] [] pos) (LI X.K Ξ (gH P (.fF ma))) :=
 (WU hg hm (B5 hP ha (M1 hP) (by rw[hs];rfl)) hs).imp λbN H R aT=>by
  obtain⟨Z,g,ρ,s,Rr,h⟩:=aT;refine jc hP (m:=.cons ma .nil) s Rr (.refl _ _) (Q0:=λxs g1=>∃j:Int,xs=[.int j]/\-(2 ^ 62)<=j/\j<2 ^ 62/\∀bB H' J,Ext ρ H bB H'->Rl X.K bB g1 H'->Z8 X.K bB H' (.fix (A4 0 j.toNat)) J->R J H') ?_ λxs g1 bH H1 vs e1 R1 r1 h=>?_
  ·skip
   exact b8 hP ma _ _ _ _ _ _ (λx g1 ⟨j,e,h1,h2,h⟩=>⟨j,by rw[e],h1,h2,h⟩) (λ_ _ z=>z) h
  ·obtain⟨j,rfl,h1,h2,h⟩:=h;obtain⟨v,rfl,rv⟩:=r1.one;obtain rfl:=rv.j7;exact⟨_,rfl,h1,h2,h bH H1 _ e1 R1 EW⟩
theorem OP(ha:PE X a (LE X.K Ξ (aS P ma)))(hb:PE X b (LE X.K Ξ (aS P mb)))(hg:Gl X "range")(hm:X.mg "range"=none)(hs:starEach [a,b] X.env=[(false,eval a X.env),(false,eval b X.env)])(gZ:starEach [b] X.env=[(false,eval b X.env)]) :
  PI X tg (.Call (.Name "range" p) [a,b] [] pos) (LI X.K Ξ (gH P (.iW ma mb))) :=
 (WV hg hm (B5 hP ha (B5 hP hb (M1 hP) (by rw[gZ];rfl)) (by rw[hs,gZ])) hs gZ).imp λbN H R aT=>by
  obtain⟨Z,g,ρ,s,Rr,h⟩:=aT;refine jc hP (m:=.cons ma (.cons mb .nil)) s Rr (.refl _ _) (Q0:=λxs g1=>∃i j:Int,xs=[.int i,.int j]/\(-(2 ^ 62)<=i/\i<2 ^ 62/\-(2 ^ 62)<=j/\j<2 ^ 62)/\∀bB H' J,Ext ρ H bB H'->Rl X.K bB g1 H'->Z8 X.K bB H' (.fix (A4 i (j-i).toNat)) J->R J H') ?_ λxs g1 bH H1 vs e1 R1 r1 h=>?_
  ·skip
   exact b8 hP ma _ _ _ _ _ _ (λx g1 h=>b8 hP mb _ _ _ _ _ _ (λy g2 ⟨i,j,e,e',h1,h⟩=>⟨i,j,by rw[e,e'],h1,h⟩) (λ_ _ z=>z) h) (λ_ _ z=>z) h
  ·obtain⟨i,j,rfl,h1,h⟩:=h;obtain⟨v,w,rfl,rv,eW⟩:=r1.two;obtain rfl:=rv.j7;obtain rfl:=eW.j7;exact⟨_,_,rfl,h1,h bH H1 _ e1 R1 EW⟩
end
theorem Ml(hN:X.N.Nodup)(hi:X.N[i]?=some x)(hx:Loc X.env.scope x)(hf:X.fn x=true\/X.env.scope.names.lookup x=some .local):PG X (.Name x pos) (LG X.K (.one i)) :=
 (HP hN hi hx hf).imp λv bN H Q hq=>by
  obtain⟨d,Z,g,ρ,s,R,r,h⟩:=hq;exact h _ (s.set i r)
inductive fH(X:Cx):List Expr->List Nat->Prop
 |nil:fH X [] []
 |cons {x:Str} {p:Pos} {i:Nat} {es:List Expr} {is:List Nat} (hi:X.N[i]?=some x) (hx:Loc X.env.scope x) (hf:X.fn x=true\/X.env.scope.names.lookup x=some .local) (r:fH X es is):fH X (.Name x p::es) (i::is)
def wH:List Nat->pk
 |[]=>FA
 |i::is=>ET (sd i) (wH is)
theorem Gi(hN:X.N.Nodup){es:List Expr}{is:List Nat}(h:fH X es is):vD X es (wH is):=by
 induction h with
 |nil=>exact Og
 |cons hi hx hf r ih=>exact QB (HP hN hi hx hf) ih rfl
theorem R7:∀{es:List Expr} {is:List Nat},fH X es is->(assignEach es X.env).length=is.length/\(assignEach es X.env).findIdx? (·.1)=none
 |_,_,.nil=>⟨rfl,rfl⟩
 |_,_,.cons (x:=x) (p:=p) (es:=es) hi hx hf r=>by
  obtain⟨h1,h2⟩:=R7 r;have e:assignEach (.Name x p::es) X.env=(false,assign (.Name x p) X.env)::assignEach es X.env:=rfl;rw[e];refine⟨by simp[h1],?_⟩;rw[List.findIdx?_cons,h2]
  rfl
theorem FW{K:PySem.W.Frag}{ρ:List Addr}{H:Hp}{k:S->Prop}{Q:L2.St->Hp->Prop}:∀{is:List Nat} {l:List D} {vs:List V} {Z bI:S} {bN:L2.St},F5 is l Z=some bI->b6 K ρ H l vs->m9 K ρ H Z bN->(∀cR,m9 K ρ H bI cR->Q cR H)->wH is vs bN H Q
 |[],_,_,_,_,_,h,.nil,s,q=>by
  simp only[F5] at h;cases h;exact⟨rfl,q _ s⟩
 |[],_,_,_,_,_,h,.cons _ _,s,q=>by simp only[F5] at h;cases h
 |i::is,_,_,_,_,_,h,.nil,s,q=>by simp only[F5] at h;cases h
 |i::is,_,_,_,_,_,h,.cons r rr,s,q=>by
  simp only[F5] at h;exact⟨_,_,rfl,FW (k:=k) h rr (s.set i r) q⟩
theorem BC:∀{is:List Nat} {l:List D} {Z bI:S},F5 is l Z=some bI->l.length=is.length
 |[],[],_,_,_=>rfl
 |[],_::_,_,_,h=>by simp only[F5] at h;cases h
 |_::_,[],_,_,h=>by simp only[F5] at h;cases h
 |_::is,_::l,_,_,h=>by simp only[F5] at h;simp[BC h]
theorem Ia{es:List Expr}{is:List Nat}{k:Nat}(hc:X.calm=true)(hN:X.N.Nodup)(hs:fH X es is):PG X (.Tuple es k pos) (LG X.K (.many is)) :=
 (Hc hc (Gi hN hs) (R7 hs).1 (R7 hs).2).imp λv bN H Q aT=>by
  obtain⟨d,Z,g,ρ,s,R,r,h⟩:=aT;obtain⟨l,bI,rfl,e,h⟩:=h;obtain⟨a',vs,rfl,ht,rs⟩:=r.E3;exact⟨_,_,rfl,ht.sq,by rw[<- rs.length];exact BC e,FW (k:=λ_=>True) e rs s h⟩
theorem LN.ext{K ρ H N bH H1}(e:Ext ρ H bH H1):(LN K ρ H N).le (LN K bH H1 N) :=
 ⟨λZ g h bB H' cR e' R s=>h bB H' cR (e.trans e') R s,λd g h=>h.ext e,λZ g h bB H' cR e' R s=>h bB H' cR (e.trans e') R s,λZ g h bB H' cR e' R s=>h bB H' cR (e.trans e') R s⟩
section
variable{Ξ:gL}{P:eO}(hP:j5 P){a b c:Expr}{ma mb mc:ME}{st:Stmt}{rest:List Stmt}{yw lV:MS}
include hP
theorem Hh:iP X [] (LS X.K Ξ (wpS P .pass)) :=
 (Oq (X:=X)).imp λN bN H ⟨Z,g,ρ,s,R,h⟩=>h ρ H bN (.refl _ _) R s
theorem Ib(h1:PS X st (LS X.K Ξ (wpS P yw)))(h2:iP X rest (LS X.K Ξ (wpS P lV))):iP X (st::rest) (LS X.K Ξ (wpS P (.seq yw lV))) :=
 (Zt h1 h2).imp λN bN H ⟨Z,g,ρ,s,R,h⟩ =>
  rf hP s R (.refl _ _) (show wpS P yw { LN X.K ρ H N with nx:=λiA g1=>wpS P lV (LN X.K ρ H N) iA g1 (LX X.K ρ H Ξ) } Z g (LX X.K ρ H Ξ) from h) ⟨λiA g1 h bH H1 Jm e1 R1 s1=>rf hP s1 R1 e1 h (LN.ext e1),λ_ _ z=>z,λ_ _ z=>z,λ_ _ z=>z⟩
theorem OY(ha:PE X a (LE X.K Ξ (aS P ma)))(hs:swapsWith a none pos.line X.env=pure false):PS X (.Expr a pos) (LS X.K Ξ (wpS P (.expr ma))) :=
 (Ol ha hs).imp λN bN H ⟨Z,g,ρ,s,R,h⟩=>eT hP s R (.refl _ _) h λx g1 bH H1 v1 e1 R1 r1 h=>h bH H1 bN e1 R1 (s.ext e1)
theorem Hj(h0:PS X (.Assign [.Name x p] a pos) (vt (LE X.K Ξ (aS P ma)) (sd i))):PS X (.Assign [.Name x p] a pos) (LS X.K Ξ (wpS P (.set i ma))) :=
 h0.imp λN bN H ⟨Z,g,ρ,s,R,h⟩=>eT hP s R (.refl _ _) h λx g1 bH H1 v1 e1 R1 r1 h=>h bH H1 _ e1 R1 ((s.ext e1).set i r1)
theorem MD(h0:PS X (.Assign [tg] a pos) (vt (LE X.K Ξ (aS P ma)) (LG X.K t))):PS X (.Assign [tg] a pos) (LS X.K Ξ (wpS P (.lF t ma))) :=
 h0.imp λN bN H ⟨Z,g,ρ,s,R,h⟩=>eT hP s R (.refl _ _) h λx g1 bH H1 v1 e1 R1 r1 h=>⟨x,Z,g1,bH,s.ext e1,R1,r1,A2 (λbI h cR s'=>h bH H1 cR e1 R1 s') h⟩
theorem ZS(hu:X.A.units+100<cLine){i:Expr}(ha:PE X a (LE X.K Ξ (aS P ma)))(ho:PE X o (LE X.K Ξ (aS P mo)))(hi:PE X i (LE X.K Ξ (aS P mi)))(hs:swapsWithSole [.Subscript o i tp] a pos.line X.env=pure false)(ly:∀ v,assign (.Subscript o i tp) X.env v=(do
   let ov <- holding [v] (eval o X.env)
   let iv <- holding [v,ov] (eval i X.env)
   standAt tp
   holding [v,ov,iv] (setItem ov iv v)
   release [v,ov,iv] [])):PS X (.Assign [.Subscript o i tp] a pos) (LS X.K Ξ (wpS P (.cN mo mi ma))) :=
 (Hd ha (VO ho hi (Mj hu) ly) hs).imp λN bN H ⟨Z,g,ρ,s,R,h⟩ =>
  eT hP s R (.refl _ _) h λx g1 bH H1 v1 e1 R1 r1 h=>eT hP (s.ext e1) R1 e1 h λy g2 eA H2 v2 e2 R2 r2 h=>eT hP (s.ext (e1.trans e2)) R2 (e1.trans e2) h λz g3 iJ H3 v3 e3 R3 r3 h =>
   ⟨y,z,x,g3,iJ,R3,r2.ext e3,r3,r1.ext (e2.trans e3),X8 (λg4 h kT H4 e4 R4=>h kT H4 bN (e1.trans (e2.trans (e3.trans e4))) R4 (s.ext (e1.trans (e2.trans (e3.trans e4))))) h⟩
omit hP in
def wB(K:PySem.W.Frag)(f:Str)(cs:List Str):Prop:=∀c C,c∈cs->p7 K c C->w9 K C f
omit hP in
theorem OM(hF:wB X.K f cs){ρ:List Addr}{H:Hp}{g g':G}{x v:D}{xv vv:V}(R:Rl X.K ρ g H)(rx:f6 X.K ρ H x xv)(rv:f6 X.K ρ H v vv)(h:Ff f cs x v g g') :
  ∃a C dx fs,xv=.ref a/\H a=some (.ins C dx fs)/\iQ X.K C/\w9 X.K C f/\fs.length<1000/\Rl X.K ρ g' (upd H a (.ins C dx (u4 f vv fs)))/\Ext ρ H ρ (upd H a (.ins C dx (u4 f vv fs))):=by
 obtain⟨i,c,fs,rfl,hi,hc,hz,rfl⟩:=h;obtain⟨a',rfl,ra⟩:=rx.j4;obtain⟨C,dx,vs,hH,hC,iq,rk,na⟩:=R.ins hi ra;obtain⟨R',e'⟩:=R.put (o':=.ins c (x8 f v fs)) (u:=.ins C dx (u4 f vv vs)) hi rfl ra ⟨hC,iq,rk.u4 rv,BB (p:=λy=>w9 X.K C y) (hF c C hc hC) na⟩;exact⟨a',C,dx,vs,rfl,hH,iq,hF c C hc hC,by rw[<- rk.length];omega,R',e'⟩
theorem OZ(hF:wB X.K f cs)(ho:PE X o (LE X.K Ξ (aS P mo)))(ha:PE X a (LE X.K Ξ (aS P ma)))(hs:swapsWith a (some (.Attribute o f tp)) pos.line X.env=pure false):PS X (.Assign [.Attribute o f tp] a pos) (LS X.K Ξ (wpS P (.fT f cs mo ma))) :=
 (VS ho ha hs).imp λN bN H ⟨Z,g,ρ,s,R,h⟩=>eT hP s R (.refl _ _) h λx g1 bH H1 v1 e1 R1 r1 h=>eT hP (s.ext e1) R1 e1 h λy g2 eA H2 v2 e2 R2 r2 h=>by
  obtain⟨g3,h,q⟩:=h;obtain⟨a',C,dx,fs,hx,hH,iq,na,hz,R3,e3⟩:=OM hF R2 r2 (r1.ext e2) h;exact⟨a',C,dx,fs,hx,hH,iq,na,hz,q eA _ bN (e1.trans (e2.trans e3)) R3 (s.ext (e1.trans (e2.trans e3)))⟩
theorem OX{op:Operator}{p:Pr}(yQ:(op=.Add/\p=.iadd)\/(op=.Sub/\p=.nG))(hN:X.N.Nodup)(hi:X.N[i]?=some x)(hx:Loc X.env.scope x)(hf:X.fn x=true\/X.env.scope.names.lookup x=some .local)(ha:PE X a (LE X.K Ξ (aS P ma))):PS X (.AugAssign (.Name x tp) op a pos) (LS X.K Ξ (wpS P (.jy i p ma))):=by
 have ho:Ja X op (r2 X.K p):=by
  intro pins s Z H x y v u Q I rx ry h;obtain⟨d,e,g,ρ,R,rd,re,d',g',hr,q⟩:=h;rcases yQ with⟨rfl,rfl⟩|⟨rfl,rfl⟩
  ·rcases hr with⟨i,j,ex,rfl,rfl⟩|⟨l,m,ex,hz,rfl,rfl⟩
   ·obtain⟨rfl,rfl⟩:=t8 ex;obtain rfl:=rd.j7;obtain rfl:=re.j7;exact Nv pins s Z H _ _ v u Q I rx ry ⟨i,j,rfl,rfl,q.now R (.int _)⟩
   ·obtain⟨rfl,rfl⟩:=t8 ex;obtain⟨p1,yg,rfl,t1,nD⟩:=rd.E3;obtain⟨p2,oy,rfl,t2,lS⟩:=re.E3;refine HD pins s Z H _ _ v u Q I rx ry (.inr ⟨p1,p2,yg,oy,rfl,rfl,t1.sq,t2.sq,by rw[<- nD.length,<- lS.length];exact m5 hz,λz=>?_,λz=>?_,λp hp=>q.tup R hp (nD.append lS)⟩)
    ·subst z;cases nD;exact q.now R (.tup t2 lS)
    ·subst z;cases lS;rw[fJ] at q;exact q.now R (.tup t1 nD)
  ·obtain⟨i,j,ex,rfl,rfl⟩:=hr;obtain⟨rfl,rfl⟩:=t8 ex;obtain rfl:=rd.j7;obtain rfl:=re.j7;exact Nw pins s Z H _ _ v u Q I rx ry ⟨i,j,rfl,rfl,q.now R (.int _)⟩
 refine(VR hN hi hx ha ho hf).imp λN bN H aT=>?_;obtain⟨Z,g,ρ,s,R,h⟩:=aT;obtain⟨xd,Ko,h⟩:=h;obtain⟨xv,hv,rx⟩:=s.val _ _ Ko;refine⟨xv,hv,eT hP s R (.refl _ _) h λz g1 bH H1 v1 e1 R1 r1 h=>?_⟩;refine⟨xd,z,g1,bH,R1,rx.ext e1,r1,p8 (λw g2 q=>?_) h⟩;exact λeA H2 v2 e2 R2 r2=>q eA H2 _ (e1.trans e2) R2 ((s.ext (e1.trans e2)).set i r2)
theorem OW(hF:wB X.K f cs)(ho:PE X o (LE X.K Ξ (aS P mo)))(ha:PE X a (LE X.K Ξ (aS P ma))):PS X (.AugAssign (.Attribute o f tp) .Add a pos) (LS X.K Ξ (wpS P (.jU f cs mo ma))) :=
 (WZ ho ha HD).imp λN bN H ⟨Z,g,ρ,s,R,h⟩=>eT hP s R (.refl _ _) h λy g1 bH H1 v1 e1 R1 r1 h=>by
  obtain⟨i,c,fs,x,rfl,hi,hc,hf,h⟩:=h;obtain⟨a',rfl,ra⟩:=r1.j4;obtain⟨C,dx,vs,hH,hC,iq,rk,na⟩:=R1.ins hi ra;have lk:=rk.look f;rw[hf] at lk;obtain⟨v,hv,rv⟩:=lk.some;refine⟨a',C,dx,vs,v,rfl,hH,iq,hF c C hc hC,hv,eT hP (s.ext e1) R1 e1 h λz g3 iJ H3 v3 e3 R3 r3 h=>?_⟩;obtain⟨d',g',hR,iO,lp,hz,q⟩:=h;have fin:∀{kT:List Addr} {H4:Hp} {vv:V},Ext iJ H3 kT H4->Rl X.K kT g' H4->f6 X.K kT H4 d' vv->∃rH iO,H4 a'=some (.ins C rH iO)/\iO.length<1000/\N.nx bN (upd H4 a' (.ins C rH (u4 f vv iO))):=by
   intro kT H4 vv e4 R4 r4;obtain⟨C2,Ek,oy,kL,zo,zb,Dp,JW⟩:=R4.ins lp ((e3.trans e4).get ra);have:C2=C:=by have h1:=zo.symm.trans hC;cases h1;rfl
   subst this;obtain⟨R5,e5⟩:=R4.put (o':=.ins c (x8 f d' iO)) (u:=.ins C2 Ek (u4 f vv oy)) lp rfl ((e3.trans e4).get ra) ⟨zo,zb,Dp.u4 r4,BB (p:=λy=>w9 X.K C2 y) (hF c C2 hc zo) JW⟩;exact⟨Ek,oy,kL,by rw[<- Dp.length];omega,q kT _ bN (e1.trans (e3.trans (e4.trans e5))) R5 (s.ext (e1.trans (e3.trans (e4.trans e5))))⟩
  rcases hR with⟨j,l,ex,rfl,rfl⟩|⟨l,m,ex,Kl,rfl,rfl⟩
  ·obtain⟨rfl,rfl⟩:=t8 ex;obtain rfl:=rv.j7;obtain rfl:=r3.j7;exact .inl ⟨_,_,rfl,rfl,fin (.refl _ _) R3 (.int _)⟩
  ·obtain⟨rfl,rfl⟩:=t8 ex;obtain⟨p1,yg,rfl,t1,nD⟩:=(rv.ext e3).E3;obtain⟨p2,oy,rfl,t2,lS⟩:=r3.E3;refine .inr ⟨p1,p2,yg,oy,rfl,rfl,t1.sq,t2.sq,by rw[<- nD.length,<- lS.length];exact m5 Kl,λz=>?_,λz=>?_,λp hp=>?_⟩
   ·subst z;cases nD;exact fin (.refl _ _) R3 (.tup t2 lS)
   ·subst z;cases lS;rw[fJ] at fin;exact fin (.refl _ _) R3 (.tup t1 nD)
   ·exact fin (u7 hp) (R3.grow hp) (.tup (.inl j6) ((nD.append lS).ext (u7 hp)))
theorem Ul{sa sb:List Stmt}{DA msb:MS}(hc:PT X c (LT X.K Ξ (dw P mc)))(ha:iP X sa (LS X.K Ξ (wpS P DA)))(hb:iP X sb (LS X.K Ξ (wpS P msb))):PS X (.If c sa sb pos) (LS X.K Ξ (wpS P (.ifs mc DA msb))) :=
 (TU hc ha hb).imp λN bN H ⟨Z,g,ρ,s,R,h⟩=>oz hP s R (.refl _ _) h λt g1 bH H1 e1 R1 h=>by
  cases t
  ·exact rf hP (s.ext e1) R1 e1 h (LN.ext e1)
  ·exact rf hP (s.ext e1) R1 e1 h (LN.ext e1)
theorem Hi(ha:PE X a (LE X.K Ξ (aS P ma))):PS X (.Return (some a) pos) (LS X.K Ξ (wpS P (.ret ma))) :=
 (VW ha).imp λN bN H ⟨Z,g,ρ,s,R,h⟩=>⟨Z,g,ρ,s,R,h⟩
theorem ZT{body:List Stmt}{mb:MS}(hp:PassesOwn (model X.prog X.w) X.A X.env X.xe)(hc:PT X c (LT X.K Ξ (dw P mc)))(hb:iP X body (LS X.K Ξ (wpS P mb))):PS X (.While c body [] pos) (LS X.K Ξ (wpS P (.iT mc mb))) :=
 (Zs hp hc hb).imp λN bN H aT=>by
  obtain⟨Z,g,ρ,s,R,h⟩:=aT;obtain⟨W,⟨m0,w0⟩,h⟩:=h;refine⟨λm cR H'=>∃bI g' bB,Ext ρ H bB H'/\m9 X.K bB H' bI cR/\Rl X.K bB g' H'/\W m bI g',⟨m0,Z,g,ρ,.refl _ _,s,R,w0⟩,?_⟩;rintro m cR H' ⟨bI,g',bB,e1,s',R',w'⟩;refine oz hP s' R' e1 (h m bI g' w') λt g1 bH H1 e2 R1 q=>?_;cases t
  ·exact q bH H1 cR (e1.trans e2) R1 (s'.ext e2)
  ·obtain⟨N2,zj,q⟩:=q;refine⟨λjJ H2=>∃cq g2 eA,Ext ρ H eA H2/\m9 X.K eA H2 cq jJ/\Rl X.K eA g2 H2/\N2 cq g2,?_,?_⟩
   ·rintro jJ H2 ⟨cq,g2,eA,e3,s2,R2,n2⟩;obtain⟨m',hm,w2⟩:=zj cq g2 n2;exact⟨m',hm,cq,g2,eA,e3,s2,R2,w2⟩
   ·refine rf hP (s'.ext e2) R1 (e1.trans e2) q ⟨?_,?_,?_,?_⟩
    ·exact λgY g3 n3 iJ H3 ki e3 R3 s3=>⟨gY,g3,iJ,(e1.trans e2).trans e3,s3,R3,n3⟩
    ·exact λd g3 h=>h.ext (e1.trans e2)
    ·exact λgY g3 h iJ H3 ki e3 R3 s3=>h iJ H3 ki ((e1.trans e2).trans e3) R3 s3
    ·exact λgY g3 n3 iJ H3 ki e3 R3 s3=>⟨gY,g3,iJ,(e1.trans e2).trans e3,s3,R3,n3⟩
theorem MA{iter:Expr}{body:List Stmt}{mb:MS}(hp:PassesOwn (model X.prog X.w) X.A X.env X.xe)(hc:X.calm=true)(hi:PI X tg iter (LI X.K Ξ (gH P mi)))(hg:PG X tg (LG X.K t))(hb:iP X body (LS X.K Ξ (wpS P mb)))(hs:∀x,foldedSetIterable iter X.env x=pure x):PS X (.For tg iter body [] pos) (LS X.K Ξ (wpS P (.eM t mi mb))) :=
 (VT hp hc hi hg hb hs).imp λN bN H aT=>by
  obtain⟨Z,g,ρ,s,R,h⟩:=aT;refine⟨Z,g,ρ,s,R,z8 hP mi _ _ _ _ _ _ (λk g1 h bH H1 J e1 R1 j1=>?_) (λ_ _ z=>z) h⟩;obtain⟨W,⟨m0,w0⟩,h⟩:=h;refine⟨λi m cR H'=>∃bI g' bB,Ext bH H1 bB H'/\m9 X.K bB H' bI cR/\Rl X.K bB g' H'/\W i m bI g',⟨m0,Z,g1,bH,.refl _ _,s.ext e1,R1,w0⟩,?_⟩;rintro i m cR H' ⟨bI,g',bB,e',s',R',w'⟩;obtain⟨tw,tu⟩:=j1 bB g' H' e' R' i;rcases h i m bI g' w' with⟨ek,q⟩|⟨x,ek,N2,zj,q⟩
  ·exact .inl ⟨tw ek,q bB H' cR (e1.trans e') R' s'⟩
  ·obtain⟨go,yl⟩:=tu x ek;refine .inr ⟨go,λjJ H2=>∃cq g2 eA,Ext bH H1 eA H2/\m9 X.K eA H2 cq jJ/\Rl X.K eA g2 H2/\N2 cq g2,?_,?_⟩
   ·rintro jJ H2 ⟨cq,g2,eA,e2,s2,R2,n2⟩;obtain⟨m',hm,w2⟩:=zj cq g2 n2;exact⟨m',hm,cq,g2,eA,e2,s2,R2,w2⟩
   ·intro v H2 y;obtain⟨e2,R2,r2⟩:=yl v H2 y;refine⟨x,bI,g',bB,s'.ext e2,R2,r2,A2 (λcq q jJ s2=>?_) q⟩;refine rf hP s2 R2 (e1.trans (e'.trans e2)) q ⟨?_,?_,?_,?_⟩
    ·exact λgY g3 n3 iJ H3 ki e3 R3 s3=>⟨gY,g3,iJ,(e'.trans e2).trans e3,s3,R3,n3⟩
    ·exact λd g3 h=>h.ext (e1.trans (e'.trans e2))
    ·exact λgY g3 h iJ H3 ki e3 R3 s3=>h iJ H3 ki (e1.trans ((e'.trans e2).trans e3)) R3 s3
    ·exact λgY g3 n3 iJ H3 ki e3 R3 s3=>⟨gY,g3,iJ,(e'.trans e2).trans e3,s3,R3,n3⟩
theorem Ii{d6:List Nat}{n:Nat}{iL me:ME}:∀bN H Q,LE X.K Ξ (aS P (.comp d6 n t mi iL me)) bN H Q->BX (LI X.K Ξ (gH P mi)) d6 n (LG X.K t) (LT X.K (nh Ξ.1) (dw P iL)) (LE X.K (nh Ξ.1) (aS P me)) bN H Q:=λbN H Q aT=>by
 obtain⟨Z,g,ρ,s,R,h⟩:=aT;refine⟨Z,g,ρ,s,R,z8 hP mi _ _ _ _ _ _ (λk g1 h bH H1 J e1 R1 j1=>?_) (λ_ _ z=>z) h⟩;obtain⟨W,⟨m0,w0⟩,h⟩:=h;refine⟨λi m CW cR H'=>∃ys bI g' bB,Ext bH H1 bB H'/\m9 X.K bB H' bI cR/\Rl X.K bB g' H'/\b6 X.K bB H' ys CW/\W i m ys bI g',⟨m0,[],_,g1,bH,.refl _ _,(s.ext e1).d6 d6 n,R1,.nil,w0⟩,?_⟩;rintro i m CW cR H' ⟨ys,bI,g',bB,e',s',R',ry,w'⟩;obtain⟨tw,tu⟩:=j1 bB g' H' e' R' i;rcases h i m ys bI g' w' with⟨ek,q⟩|⟨x,ek,hz,q⟩
 ·exact .inl ⟨tw ek,λp hp=>(q.ext (e1.trans e')).new R' hp ry⟩
 ·obtain⟨go,yl⟩:=tu x ek;refine .inr ⟨go,by rw[<- ry.length];exact AJ hz,λv H2 y=>?_⟩;obtain⟨e2,R2,r2⟩:=yl v H2 y;refine⟨x,bI,g',bB,s'.ext e2,R2,r2,A2 (λcq q jJ s2=>?_) q⟩;refine⟨cq,g',bB,s2,R2,n6 hP iL _ _ _ _ _ _ (λb g3 q iJ H3 e3 R3=>?_) (λ_ _ z=>z.elim) q⟩;cases b
  ·obtain⟨m',hm,w3⟩:=q;exact⟨m',hm,ys,cq,g3,iJ,(e'.trans e2).trans e3,s2.ext e3,R3,(ry.ext e2).ext e3,by simpa using w3⟩
  ·refine⟨cq,g3,iJ,s2.ext e3,R3,b8 hP me _ _ _ _ _ _ (λz g4 q kT H4 v4 e4 R4 r4=>?_) (λ_ _ z=>z.elim) q⟩;obtain⟨m',hm,w4⟩:=q;exact⟨m',hm,ys++[z],cq,g4,kT,(e'.trans e2).trans (e3.trans e4),(s2.ext e3).ext e4,R4,(((ry.ext e2).ext e3).ext e4).append (.cons r4 .nil),by simpa using w4⟩
theorem ZG{elt iter:Expr}{ifs:List Expr}{scope:Scope}{N':List Str}{d6:List Nat}{cl:List (Str×Addr)}{p2 jn:Pos}{iL me:ME}(S:cI X scope N' d6 cl)(hc:X.calm=true)(hi:PI X tg iter (LI X.K Ξ (gH P mi)))(hg:∀pins C s H fp,PG (b9 X pins scope N' cl C s H fp) tg (LG X.K t))(ht:∀pins C s H fp,jD (b9 X pins scope N' cl C s H fp) ifs (LT X.K (nh Ξ.1) (dw P iL)))(he:∀pins C s H fp,PE (b9 X pins scope N' cl C s H fp) elt (LE X.K (nh Ξ.1) (aS P me)))(hs:∀x,foldedSetIterable iter X.env x=pure x)(mw:Gl X "sorted")(nN:X.mg "sorted"=none):PE X (.Call (.Name "sorted" p2) [.SetComp elt [⟨tg,iter,ifs,0⟩] scope pos] [] jn) (LE X.K Ξ (aS P (.gJ d6 N'.length t mi iL me))) :=
 (xn (Y8 hc) mw nN (by first|exact gF|decide +kernel) (U1 (QA S hc hi hg ht he hs) sx)).imp λbN H Q aT=>by
  obtain⟨Z,g,ρ,s,R,h⟩:=aT;refine⟨Z,g,ρ,s,R,z8 hP mi _ _ _ _ _ _ (λk g1 h bH H1 J e1 R1 j1=>?_) (λ_ _ z=>z) h⟩;obtain⟨W,⟨m0,w0⟩,h⟩:=h;refine⟨λi m ys cR H'=>∃bI g' bB,Ext bH H1 bB H'/\m9 X.K bB H' bI cR/\Rl X.K bB g' H'/\W i m ys bI g',⟨m0,_,g1,bH,.refl _ _,(s.ext e1).d6 d6 _,R1,w0⟩,?_⟩;rintro i m ys cR H' ⟨bI,g',bB,e',s',R',w'⟩;obtain⟨tw,tu⟩:=j1 bB g' H' e' R' i;rcases h i m ys bI g' w' with⟨ek,hz,q⟩|⟨x,ek,hz,q⟩
  ·exact .inl ⟨tw ek,λp hp=>⟨p,ys,rfl,j6,by omega,λp' fI=>(q.ext ((e1.trans e').trans (u7 hp))).new (R'.grow hp) fI (b6.ofInts _)⟩⟩
  ·obtain⟨go,yl⟩:=tu x ek;refine .inr ⟨go,hz,λv H2 y=>?_⟩;obtain⟨e2,R2,r2⟩:=yl v H2 y;refine⟨x,bI,g',bB,s'.ext e2,R2,r2,A2 (λcq q jJ s2=>?_) q⟩;refine⟨cq,g',bB,s2,R2,n6 hP iL _ _ _ _ _ _ (λb g3 q iJ H3 e3 R3=>?_) (λ_ _ z=>z.elim) q⟩;cases b
   ·obtain⟨m',hm,w3⟩:=q;exact⟨m',hm,cq,g3,iJ,(e'.trans e2).trans e3,s2.ext e3,R3,by simpa using w3⟩
   ·refine⟨cq,g3,iJ,s2.ext e3,R3,b8 hP me _ _ _ _ _ _ (λz g4 q kT H4 v4 e4 R4 r4=>?_) (λ_ _ z=>z.elim) q⟩;obtain⟨j,rfl,m',hm,w4⟩:=q;obtain rfl:=r4.j7;exact⟨j,rfl,m',hm,cq,g4,kT,(e'.trans e2).trans (e3.trans e4),(s2.ext e3).ext e4,R4,by simpa using w4⟩
end
end M
namespace M
open PySem L2
section
variable{X:Cx}{Ξ:gL}{P:eO}{o:Expr}{mo:ME}{pos:Pos}(hP:j5 P)
include hP
theorem OA{kx vx:Expr}{elts ifs:List Expr}{x1 j:Nat}{tp apos ip:Pos}{scope:Scope}{N':List Str}{cl:List (Str×Addr)}(S:cI X scope N' [j] cl)(h3:N'.length=4)(hc:X.calm=true)(ho:PE X o (LE X.K Ξ (aS P mo)))(hb:attributeBase o "items" X.env (eval o X.env)=eval o X.env)(hl:(apos.endLine==ip.line)=true)(hg:∀pins C s H fp,PG (b9 X pins scope N' cl C s H fp) (.Tuple elts x1 tp) (FC X.K 2 (wH [2,3])))(ht:∀pins C s H fp,jD (b9 X pins scope N' cl C s H fp) ifs (uV (oB (ym X.K true) (ph 0) (ph 3))))(hk:∀pins C s H fp,PE (b9 X pins scope N' cl C s H fp) kx (ph 2))(hv:∀pins C s H fp,PE (b9 X pins scope N' cl C s H fp) vx (ph 3)) :
  PE X (.DictComp kx vx [⟨.Tuple elts x1 tp,.Call (.Attribute o "items" apos) [] [] ip,ifs,0⟩] scope pos) (LE X.K Ξ (aS P (.prim .mI (.cons mo (.cons (.var j) .nil))))) :=
 Oe (Qu S hc (QC ho hb hl) hg ht hk hv λ_=>rfl) λbN H Q aT=>by
  obtain⟨Z,g,ρ,s,R,h⟩:=aT;refine⟨Z,g,ρ,s,R,b8 hP mo _ _ _ _ _ _ (λx g1 h bH H1 v1 e1 R1 r1=>?_) (λ_ _ z=>z) h⟩;obtain⟨d,dj,d',g',⟨a',n,fs,ex,KN,hl,nd,rfl,rfl⟩,q⟩:=h;obtain⟨rfl,rfl⟩:=t8 ex;obtain⟨a,rfl,ra⟩:=r1.j4;obtain⟨vs,ha,kr⟩:=R1.bO KN ra;obtain⟨w,hw,eW⟩:=(s.ext e1).val j _ dj;obtain rfl:=eW.j7;have vl:vs.length=fs.length:=by rw[<- kr.length,ao]
  refine⟨a,vs,rfl,ha,λφ yE=>⟨λi m ys cR H'=>m+i=fs.length/\(∃y0 y1 y2,cR=[some (.int n),y0,y1,y2])/\(∀b u,upd H1 a (.ext φ) b=some u->H' b=some u)/\i7 X.K bH H1 (((fs.take i).filter (Y5 n)).map iX) ys,⟨fs.length,by simp,⟨none,none,none,?_⟩,λ_ _ z=>z,by simpa using i7.nil⟩,?_⟩⟩
  ·rw[h3];unfold u5;simp[hw]
  rintro i m ys cR H' ⟨hm,⟨y0,y1,y2,rfl⟩,up,ky⟩;have uc:H' a=some (.ext φ):=up _ _ j6;have tp:∀b xs,H1 b=some (.tup xs)->H' b=some (.tup xs):=λb xs z=>up _ _ (by rw[d0];exact z;intro e;rw[e,ha] at z;cases z);cases m with
  |zero =>
   have hi:i=fs.length:=by omega
   subst hi;rw[cL] at ky;refine .inl ⟨⟨uc,by omega⟩,λp hp=>⟨a,φ,vs,?_,yE,?_⟩⟩
   ·rw[d0 (i0 uc hp)];exact uc
   have DK:a≠p:=i0 uc hp;have sw:upd (upd H' p (.dK ys)) a (.dK vs)=upd (upd H' a (.dK vs)) p (.dK ys):=funext λb=>by
    by_cases h1:b=a
    ·rw[h1,j6,d0 DK,j6]
    ·rw[d0 h1];by_cases h2:b=p
     ·rw[h2,j6,j6]
     ·rw[d0 h2,d0 h2,d0 h1]
   rw[sw];have sup:∀b u,H1 b=some u->upd H' a (.dK vs) b=some u:=λb u z=>by
    by_cases h1:b=a
    ·rw[h1,j6,<- ha,<- h1];exact z
    ·rw[d0 h1];exact up _ _ (by rw[d0 h1];exact z)
   have x1:Ext bH H1 bH (upd H' a (.dK vs)):=⟨⟨[],by simp⟩,λb xs z=>sup _ _ z⟩
   have oK:upd H' a (.dK vs) p=none:=by rw[d0 DK.symm];exact hp
   exact q (bH++[p]) _ _ (e1.trans (x1.trans (A6 oK))) ((R1.sup sup).new oK (o:=.bO _) (u:=.dK ys) (ky.ext x1)) (.ref (R1.t4 p))
  |succ m =>
   have hi:i<fs.length:=by omega
   have yl:ys.length<=i:=by
    rw[<- ky.length,ao];exact aJ (dI _ _) (by rw[cA];exact Nat.min_le_left _ _)
   refine .inr ⟨⟨uc,by omega⟩,by omega,?_⟩;rintro x H2 ⟨p,k,x,hp,rfl,hx,rfl⟩;obtain⟨⟨k',n1,n2⟩,hf⟩:∃f,fs[i]?=some f:=⟨_,aC hi⟩
   obtain⟨v,DJ,rv⟩:=kr.get (i:=i) (k:=k') (d:=.tup [.int n1,.int n2]) (by rw[aB,hf];rfl);rw[hx] at DJ;obtain⟨rfl,rfl⟩:=xV (aF DJ);obtain⟨q',ws,rfl,tq,rs⟩:=rv.E3;obtain rfl:=b6.ints (ns:=[n1,n2]) rs;have x2:Ext bH H1 bH (upd H' p (.tup [kV k,.ref q'])):=⟨⟨[],by simp⟩,λb xs z=>by rw[d0 (i0 (tp b xs z) hp)];exact tp b xs z⟩
   have Df:∀b u,upd H1 a (.ext φ) b=some u->upd H' p (.tup [kV k,.ref q']) b=some u:=λb u z=>by rw[d0 (i0 (up b u z) hp)];exact up b u z
   have tk:fs.take (i+1)=fs.take i++[(k,n1,n2)]:=by rw[cE,hf];rfl
   refine⟨p,_,rfl,TupAt.sq (.inl j6),rfl,_,_,rfl,_,_,rfl,rfl,?_⟩;refine⟨.int n,rfl,.ref q',rfl,q',_,rfl,.inr (tq.ext x2).sq,rfl,rfl,_,rfl,?_⟩;have hk:(!vZ (.int n) ([n1,n2].map V.int))=Y5 n (k,n1,n2):=by simp[vZ,lA,Y5,Bool.beq_eq_decide_eq]
   rw[aG rfl,hk];cases hz:Y5 n (k,n1,n2) with
   |false =>
    refine⟨m,by omega,by omega,⟨_,_,_,rfl⟩,Df,?_⟩;rw[tk,cQ,dt,hz];simpa using ky
   |true =>
    refine⟨kV k,rfl,k,rfl,.ref q',rfl,m,by omega,by omega,⟨_,_,_,rfl⟩,Df,?_⟩;rw[tk,cQ,dt,hz];have:=ky.put (k:=k) rv;have np:((((fs.take i).filter (Y5 n)).map iX).any λkv=>decide (kv.1=k))=false:=by
     rw[List.any_eq_false];intro y hy e;obtain⟨f,KQ,rfl⟩:=au.mp hy;have tW:=(bE.mp KQ).1;have e:f.1=k:=aN e;obtain⟨i',lp,e'⟩:=fM tW;have l1:i'<i:=by rw[cA] at lp;omega
     have JV:=gn.mp nd i' i (by simp;omega) (by simpa using hi) l1;apply JV;rw[kh] at e';have KO:fs[i]=(k,n1,n2):=by rw[aC hi] at hf;exact aF hf
     simp[e',KO,e]
    rw[putD,az (by rw[np];decide)] at this;simpa[iX] using this
end
end M
namespace M
open PySem L2 PySem.Spec PyProof.Rows
variable{X:Cx}{Ξ:gL}{P:eO}{x qual:Str}{pos px:Pos}{c:f7}{i n:Nat}{e o b a:Expr}{es args:List Expr}{env:Env}{p:Pr}{f:Addr}{sc scope:Scope}{r:CF}{m:ME}{cd:Value}{N:List Str}{A:Around}{outer:List Env}{s:Shared}{H:Hp}{E:XK}
section
variable(hP:j5 P)
include hP
theorem ZR{C:Addr}{B newId gq:String}{bm:List Value}{np dS:Pos}{ju:Expr}{rest:List Expr}{fW:ME}(hc:X.calm=true)(O:OwnCls x C bm newId X.mg X.base)(FB:ExcBaseFacts B newId gq bm)(hg:Gl X x)(ha:PA X (ju::rest) (LA X.K Ξ (fe P fW)))(hr:wN X Ξ.2)(hx:x∈Ξ.1)(hC:p7 X.K x C)(he:starEach (ju::rest) X.env=(false,eval ju X.env)::starEach rest X.env)(eG:(backTo dS (starEach rest X.env)).any (·.1)=false)(hd:(x==("__debug__":Str))=false):PS X (.Raise (some (.Call (.Name x np) (ju::rest) [] dS)) none pos) (LS X.K Ξ (wpS P (.raise x fW))) :=
 (Zr hc O FB hg ha hr he eG hd).imp λN bN H aT=>by
  obtain⟨Z,g,ρ,s,R,h⟩:=aT;refine jc hP s R (.refl _ _) h λds g1 bH H1 vs e1 R1 r1 h=>?_;exact⟨by rw[<- r1.length];exact m5 (aJ h.1 (by decide)),h.2 bH H1 C e1 R1 hx hC⟩
def xB(X:Cx)(ex:List Str)(D:L2.Ends)(hs:List ExceptHandler):gL:=(ex,λv _ H=>∃C,v=.ref C/\qH X D C H hs)
inductive lC(X:Cx)(Ξ:gL)(P:eO):List ExceptHandler->List (Str×ME)->Prop
 |nil (hh:uW X Ξ.2):lC X Ξ P [] []
 |cons {y:Str} {C':Addr} {p p1 p2:Pos} {e:Expr} {me:ME} {hs:List ExceptHandler} {ms:List (Str×ME)} (hg:Gl X y) (hd:(y==("__debug__":Str))=false) (hm:X.mg y=some (.ref C'))
   (hx:∀x C,x∈Ξ.1->p7 X.K x C->PySem.W.exmOne X.K (.ref C) (.ref C')=some (decide (x=y\/y="MintError"))) (he:∀ea,PE (F6 X ea) e (LE X.K (nh Ξ.1) (aS P me))) (r:lC X Ξ P hs ms) :
   lC X Ξ P (.ExceptHandler (some (.Name y p)) none [.Return (some e) p1] p2::hs) ((y,me)::ms)
theorem IF{N:L2.Ends}{ρ bB:List Addr}{H H':Hp}{Z:S}{g:G}{x:Xn}{C:Addr}(hl:Z.length=X.N.length)(e:Ext ρ H bB H')(R:Rl X.K bB g H')(hx:x.cls∈Ξ.1)(hC:p7 X.K x.cls C) :
  ∀{hs:List ExceptHandler} {ms:List (Str×ME)},lC X Ξ P hs ms->mM P (LN X.K ρ H N) (Z.map λ_=>none) (LX X.K ρ H Ξ) ms x g->qH X N C H' hs
 |_,_,.nil hh,q=>⟨Ξ.2,hh,q bB H' C e R hx hC⟩
 |_,_,.cons (me:=me) hg hd hm Kn he r,q=>by
  refine⟨hg,hd,_,_,hm,Kn _ _ hx hC,?_⟩;unfold mM at q;split at q
  ·rename_i ex;rw[aG (by simpa using ex)];refine⟨LS X.K (nh Ξ.1) (wpS P (.seq (.ret me) .pass)),λea=>Ib (X:=F6 X ea) (Ξ:=nh Ξ.1) hP (Hi (X:=F6 X ea) hP (he ea)) (Hh (X:=F6 X ea) hP),?_⟩;refine⟨Z.map λ_=>none,g,bB,⟨by simp[hl],λi d z=>?_⟩,R,?_⟩
   ·rw[aB] at z;cases e:Z[i]? with
    |none=>rw[e] at z;cases z
    |some y=>rw[e] at z;cases z
   ·skip
    refine b8 hP me _ _ _ _ _ _ (λd g1 h=>?_) (λ_ _ z=>z.elim) q;exact h.ext e
  ·rename_i ex;rw[az (by simpa using ex)];exact IF hl e R hx hC r q
theorem MC{h₀:ExceptHandler}{hs:List ExceptHandler}{ms:List (Str×ME)}{body:List Stmt}{mb:MS}(eU:X.stack=X.env::X.outer)(hf:X.env.frame=some X.env.locals)(hb:∀pins D,iP (X6 X pins (sg X pins D (h₀::hs))) body (LS X.K (xB X Ξ.1 D (h₀::hs)) (wpS P mb)))(hh:lC X Ξ P (h₀::hs) ms):PS X (.Try body (h₀::hs) [] [] pos) (LS X.K Ξ (wpS P (.oj mb ms))):=by
 intro pins s bN H N I ⟨Z,g,ρ,sr,R,h⟩;refine VX (t:=λD=>LS X.K (xB X Ξ.1 D (h₀::hs)) (wpS P mb)) (Ξ:=λD=>(xB X Ξ.1 D (h₀::hs)).2) eU hf (λpins D _=>hb pins D) pins s bN H N I ⟨λC H' ⟨C',e,z⟩=>by cases e;exact z,?_⟩;refine⟨Z,g,ρ,sr,R,wpS_mono hP mb _ _ _ _ _ _ ⟨λ_ _ z=>z,λ_ _ z=>z,λ_ _ z=>z,λ_ _ z=>z⟩ (λx g1 q bB H' C e' R' hm hc=>⟨C,rfl,?_⟩) h⟩;exact IF (Ξ:=Ξ) hP (sr.len.trans I.len) e' R' hm hc hh q
end
structure f7 where
 N:List Str
 nm:List (Str×NameKind)
 lJ:Bool
 fns:List (Str×Nat)
 con:List (Str×D)
 blt:List Str
 exc:List Str
 gd:List (Str×List D)
 cls:List (Str×Nat)
 mQ:List (Str×Str×Nat)
 mY:List (Str×Str)
 jm:Bool
 iU:Bool
def fK:Expr->Bool
 |.Set ..=>false
 |.Starred ..=>false
 |.Slice ..=>false
 |_=>true
def A5:Expr->Bool
 |.ListComp ..=>false
 |.SetComp ..=>false
 |.DictComp ..=>false
 |_=>true
def Fb:Expr->Bool
 |.Name ..=>false
 |_=>true
def sf:Expr->Bool
 |.Tuple ..=>false
 |_=>true
def Br:Expr->Bool
 |.Name ..=>true
 |.Call ..=>true
 |.Subscript ..=>true
 |.Constant ..=>true
 |.Attribute ..=>true
 |.BinOp ..=>true
 |_=>false
def su:Expr->Bool
 |.Call (.Name ..) ..=>false
 |_=>true
def f7.idx(c:f7)(x:Str):Option Nat:=c.N.findIdx? λy=>decide (y=x)
def f7.pE(c:f7)(x:Str):Bool:=match c.nm.lookup x with
 |some .local=>true
 |some .cell=>true
 |some .free=>true
 |_=>false
def f7.gl(c:f7)(x:Str):Bool:=decide (c.nm.lookup x=some .globalImplicit)
def f7.z7(c:f7)(x:Str):Bool:=decide (c.nm.lookup x=some .local)||decide (c.nm.lookup x=some .cell)
def V2(x:Str):Bool:=(x==("__debug__":Str))==false&&(x==("__classdict__":Str))==false&&decide (x≠"__name__")
def BY:List (Str×String):=[("int","int"),("bool","bool"),("str","str"),("tuple","tuple"),("list","list")]
def Ce:List (Str×Pr):=[("len",.len),("list",.list),("tuple",.tuple),("isinstance",.isin),("all",.all),("int",.int),("sorted",.eK),("sum",.sum),("set",.pQ)]
def vi:List (Str×Pr):=[("clear",.clear),("pop",.pM)]
def Cm:List (Str×Pr):=[("append",.append),("pop",.pop),("add",.kZ)]
def wO:Expr->Option (Str×List Expr)
 |.Call (.Name x _) args [] _=>some (x,args)
 |_=>none
def EI:Expr->Bool
 |.Tuple ..=>true
 |_=>false
def asName:Expr->Option Str
 |.Name x _=>some x
 |_=>none
def frees(sc:Scope):List Str:=(sc.names.filter λy=>decide (y.2=.free)).map (·.1)
def locals(sc:Scope):List Str:=(sc.names.filter λy=>decide (y.2=.local)||decide (y.2=.cell)).map (·.1)
def f7.inner(c:f7)(sc:Scope):f7:={ c with N:=frees sc++locals sc,nm:=sc.names,lJ:=false,jm:=false,iU:=false }
def f7.d6(c:f7)(sc:Scope):List Nat:=(frees sc).map λx=>(c.idx x).getD 0
def f7.xf(c:f7)(sc:Scope):Bool :=
 decide (sc.kind=.function)&&sc.names.all (λy=>!decide (y.2=.cell)||decide (sc.names.lookup y.1=some .cell))&&sc.names.all (λy=>!decide (y.2=.local)||decide (sc.names.lookup y.1=some .local)) &&
 decide (frees sc++locals sc).Nodup&&(frees sc).all (λx=>(c.idx x).isSome&&decide (sc.names.lookup x=some .free)&&(decide (c.nm.lookup x=some .cell)||decide (c.nm.lookup x=some .free)))
def f7.slot(c:f7)(e:Expr):Option Nat:=(asName e).bind λx=>if c.z7 x then c.idx x else none
def f7.slots(c:f7):List Expr->Option (List Nat)
 |[]=>some []
 |e::r=>(c.slot e).bind λi=>(c.slots r).map λis=>i::is
def f7.tg(c:f7)(e:Expr):Option MT:=((c.slot e).map .one).orElse λ_=>match e with
 |.Tuple es _ _=>(c.slots es).map .many
 |_=>none
def qI:Const->Option D
 |.int i=>some (.int i)
 |.bool b=>some (.bl b)
 |.none=>some .bf
 |.str x=>some (.str x)
 |_=>none
structure CF where
 e:f7->Expr->Option ME
 t:f7->Expr->Option ME
 s:f7->Stmt->Option MS
section
variable(r:CF)(c:f7)
def c1(p:Pr)(a:Expr):Option ME:=(r.e c a).map λm=>.prim p (.cons m .nil)
def c2(p:Pr)(a b:Expr):Option ME:=(r.e c a).bind λma=>(r.e c b).map λmb=>.prim p (.cons ma (.cons mb .nil))
def L3:List Expr->Option ME
 |[]=>some .nil
 |e::es=>if fK e then(r.e c e).bind λm=>(L3 es).map λms=>.cons m ms else none
def IL:Expr->Option Str
 |.Constant (.str x) _ _=>some x
 |_=>none
def Fv:Expr->Option Expr
 |.FormattedValue e k none _=>if k=-1 then some e else none
 |_=>none
def rX:List Expr->Option ME
 |[]=>some .nil
 |e::es=>((IL e).bind λx=>if x.length<=2000 then(rX es).map λms=>.cons (.lit (.str x)) ms else none).orElse λ_ =>
   (Fv e).bind λa=>(r.e c a).bind λm=>(rX es).map λms=>.cons (.prim .fv (.cons m .nil)) ms
def uM:List (Option Expr)->List Expr->Option ME
 |[],[]=>some .nil
 |some k::ks,v::vs=>(r.e c k).bind λmk=>(r.e c v).bind λmv=>(uM ks vs).map λms=>.cons mk (.cons mv ms)
 |_,_=>none
def xE(op:BoolOp):List Expr->Option ME
 |[]=>none
 |[a]=>r.e c a
 |a::b::rs=>(r.e c a).bind λma=>(xE op (b::rs)).map λmb=>match op with
  |.And=>.dH ma mb
  |.Or=>.gC ma mb
def xF(op:BoolOp):List Expr->Option ME
 |[]=>none
 |[a]=>r.t c a
 |a::b::rs=>(r.t c a).bind λma=>(xF op (b::rs)).map λmb=>match op with
  |.And=>.dH ma mb
  |.Or=>.gC ma mb
def IM:List Expr->Option ME
 |[]=>some .no
 |[e]=>r.t c e
 |_=>none
def u3:List Stmt->Option MS
 |[]=>some .pass
 |s::rs=>(r.s c s).bind λm=>(u3 rs).map λms=>.seq m ms
def Cb(x:Str):Option ME :=
 if V2 x then(if c.pE x then(c.idx x).map .var else if c.gl x then((c.con.lookup x).map .lit).orElse λ_=>if c.blt.contains x then(BY.lookup x).map λt=>.lit (.ty t) else none else none) else none
def ya(op:UnaryOp)(a:Expr):Option ME:=if op=.Not then(r.e c a).map .cV else c1 r c (.un op) a
def f7.xt(b:Expr):Option (List D):=(asName b).bind λx=>if c.gl x&&V2 x then c.gd.lookup x else none
def QR:CmpOp->Option Bool
 |.In=>some false
 |.NotIn=>some true
 |_=>none
def vw(a:Expr)(ops:List CmpOp)(bs:List Expr):Option ME:=match ops,bs with
 |[op],[b]=>if behindInMarks op b then none else((QR op).bind λneg=>(c.xt b).bind λkvs=>(r.e c a).map λma=>.prim (xH neg) (.cons (.lit (.tup kvs)) (.cons ma .nil))).orElse λ_=>c2 r c (.cmp op) a b
 |[op,ia],[b,d]=>if lastMarks [op,ia] [b,d] then none else(r.e c a).bind λma=>(r.e c b).bind λmb=>(r.e c d).map λmd=>.chain op ia ma mb md
 |_,_=>none
def Wm:Expr->Option (Option Expr×Option Expr×Option Expr)
 |.Slice lo hi st _=>some (lo,hi,st)
 |_=>none
def CY(a:Expr):Option Expr->Option Expr->Option Expr->Option ME
 |none,none,none=>c1 r c (.kY false false) a
 |some b,none,none=>c2 r c (.kY true false) a b
 |none,some b,none=>c2 r c (.kY false true) a b
 |_,_,_=>none
def CG(a b:Expr):Option ME:=((Wm b).bind λq=>CY r c a q.1 q.2.1 q.2.2).orElse λ_=>if fK b then((c.xt a).bind λkvs=>(r.e c b).map λmb=>.prim .mF (.cons (.lit (.tup kvs)) (.cons mb .nil))).orElse λ_=>c2 r c .ix a b else none
def yb(x:Str)(e:Expr):Option ME:=(wO e).bind λq =>
 if x="list" && q.1="range" && c.blt.contains "list" && c.blt.contains "range" && c.gl "range" then (match q.2 with
  |[a]=>if fK a then c1 r c .lX a else none
  |[a,b]=>if fK a&&fK b then c2 r c .lW a b else none
  | _=>none)
 else if x="sorted" && q.1="set" && c.blt.contains "sorted" && c.blt.contains "set" && c.gl "set" then (match q.2 with
  |[a]=>if fK a then c1 r c .sset a else none
  | _=>none)
 else if x="len" && q.1="set" && c.blt.contains "len" && c.blt.contains "set" && c.gl "set" then (match q.2 with
  |[a]=>if fK a then c1 r c .V8 a else none
  | _=>none)
 else none
def Sl(x:Str)(e:Expr):List Expr->Option ME
 |[]=>yb r c x e
 |_=>none
def Cu(x:Str):Option ME:=if V2 x&&c.gl x then((c.fns.lookup x).map λf=>.call f .nil).orElse λ_=>(c.cls.lookup x).map λf=>.make x f .nil else none
def Cv(x:Str)(e:Expr)(es:List Expr):Option ME:=if V2 x&&c.gl x then(Sl r c x e es).orElse λ_=>(L3 r c (e::es)).bind λms=>((c.fns.lookup x).map λf=>.call f ms).orElse λ_=>((c.cls.lookup x).map λf=>.make x f ms).orElse λ_=>if c.blt.contains x then(Ce.lookup x).map λp=>.prim p ms else none else none
def Hq(x:Str):List Expr->Option ME
 |[]=>Cu c x
 |e::es=>Cv r c x e es
def f7.meths(m:Str):List (Str×Nat):=(c.mQ.filter λy=>decide (y.1=m)).map (·.2)
def Cw(o:Expr)(m:Str)(apos pos:Pos)(args:List Expr):Option ME :=
 if su o && (apos.endLine == pos.line) && decide (args.length < 20) then (r.e c o).bind λmo=>(L3 r c args).bind λms=>if m="index" then (if args.isEmpty then none else some (.eL .index mo ms)) else if decide (m="pop") && Fb o && !args.isEmpty then some (.eL .iM mo ms) else if args.isEmpty && (vi.lookup m).isSome then (vi.lookup m).map λp=>.eL p mo ms else (match Cm.lookup m with
  |some p=>if args.isEmpty then none else some (.eL p mo ms)
  | none=>some (.bx m (c.meths m) mo ms)) else none
def Ca(f:Expr)(args:List Expr)(iV:List Keyword)(pos:Pos):Option ME:=if iV.isEmpty then(match f with
 |.Name x _=>Hq r c x args
 |.Attribute o m apos=>Cw r c o m apos pos args
 | _=>none) else none
def uO(tg e:Expr):Option ME:=(((wO e).bind λq =>
  if q.1="enumerate" then (match q.2 with
   |[a]=>if c.gl "enumerate"&&c.blt.contains "enumerate"&&fK a&&EI tg then(r.e c a).map .kl else none
   | _=>none)
  else if q.1="reversed" then (match q.2 with
   |[a]=>if c.gl "reversed"&&c.blt.contains "reversed"&&fK a then(r.e c a).map .nF else none
   | _=>none)
  else if q.1="range" then (match q.2 with
   |[a]=>if c.gl "range"&&c.blt.contains "range"&&fK a then(r.e c a).map .fF else none
   |[a,b]=>if c.gl "range"&&c.blt.contains "range"&&fK a&&fK b then(r.e c a).bind λma=>(r.e c b).map λmb=>.iW ma mb else none
   | _=>none)
  else none):Option ME).orElse λ_=>if fK e then (r.e c e).map .eR else none
def qR(elt:Expr)(gens:List Comprehension)(sc:Scope):Option ME:=match gens with
 |[⟨tg,it,ifs,tB⟩]=>if c.xf sc&&decide (tB=0)&&fK it then((c.inner sc).tg tg).bind λt=>(uO r c tg it).bind λmi=>(IM r (c.inner sc) ifs).bind λmc=>(r.e (c.inner sc) elt).map λme=>.comp (c.d6 sc) (frees sc++locals sc).length t mi mc me else none
 |_=>none
def Fw:Expr->Option Str
 |.Name x _=>some x
 |_=>none
def Wl:Expr->Option (Expr×List Comprehension×Scope)
 |.SetComp elt gens sc _=>some (elt,gens,sc)
 |_=>none
def Sg:ME->Option ME
 |.comp a n t i k e=>some (.gJ a n t i k e)
 |_=>none
def yc(f:Expr)(args:List Expr)(iV:List Keyword):Option ME:=match args with
 |[a]=>if iV.isEmpty&&decide (Fw f=some "sorted")&&c.gl "sorted"&&c.blt.contains "sorted" then(Wl a).bind λq=>(qR r c q.1 q.2.1 q.2.2).bind Sg else none
 |_=>none
def vQ(f:Expr)(args:List Expr)(iV:List Keyword):Option ME:=(λ(_:f7)=>none) c
def CD(es:List Expr)(k:Nat):Option ME:=if c.lJ&&decide (k=0) then(match es with
 |[.Constant (.int i) _ _]=>some (.prim (.kG i) .nil)
 | _=>none) else none
def Wj:Expr->Option (Expr×List Expr×List Keyword×Pos)
 |.Call f a k p=>some (f,a,k,p)
 |_=>none
def EG:Expr->Option (Expr×Str×Pos)
 |.Attribute o m p=>some (o,m,p)
 |_=>none
def Wk:Expr->Option (Expr×List CmpOp×List Expr)
 |.Compare a ops bs _=>some (a,ops,bs)
 |_=>none
def Wn:Expr->Option (List Expr)
 |.Tuple es _ _=>some es
 |_=>none
def f7.pe(c:f7)(e:Expr)(i:Nat):Bool:=((Fw e).map λx=>V2 x&&c.pE x&&decide (c.idx x=some i)).getD false
def Dc(c:f7):List Expr->Bool
 |[b]=>c.pe b 3
 |_=>false
def CZ(c:f7):List Expr->Bool
 |[e]=>((Wk e).map λq=>decide (q.2.1=[.NotIn])&&c.pe q.1 0&&Dc c q.2.2).getD false
 |_=>false
def yd(kx vx:Expr)(gens:List Comprehension)(sc:Scope):Option ME:=match gens with
 |[⟨tg,it,ifs,tB⟩]=>if c.xf sc&&decide (tB=0)&&decide ((frees sc++locals sc).length=4)&&(c.inner sc).pe kx 2&&(c.inner sc).pe vx 3&&CZ (c.inner sc) ifs then
   (Wj it).bind λq=>(EG q.1).bind λw=>if q.2.1.isEmpty&&q.2.2.1.isEmpty&&decide (w.2.1="items")&&su w.1&&(w.2.2.endLine==q.2.2.2.line) then
    (Wn tg).bind λes=>if decide ((c.inner sc).slots es=some [2,3]) then (match c.d6 sc with
     |[j]=>(r.e c w.1).map λmo=>.prim .mI (.cons mo (.cons (.var j) .nil))
     | _=>none) else none else none else none
 |_=>none
def Fg:Expr->Option ME
 |.Name x _=>Cb c x
 |.Constant k _ _=>(qI k).map .lit
 |.BinOp a op b _=>c2 r c (.bin op) a b
 |.UnaryOp op a _=>ya r c op a
 |.Compare a ops bs _=>vw r c a ops bs
 |.BoolOp op vs _=>xE r c op vs
 |.IfExp t a b _=>(r.t c t).bind λmt=>(r.e c a).bind λma=>(r.e c b).map λmb=>.ite mt ma mb
 |.Tuple es _ _=>(L3 r c es).map (.prim .tup)
 |.List es _=>(L3 r c es).map (.prim .lst)
 |.Subscript a b _=>CG r c a b
 |.Dict ks vs _=>if ks.isEmpty&&vs.isEmpty then some (.prim .T3 .nil) else if decide (ks.length<=15) then(uM r c ks vs).map .ng else none
 |.JoinedStr vs _=>if decide (2<=vs.length)&&decide (vs.length<=40) then(rX r c vs).map (.prim .mG) else none
 |.Attribute o f _=>if su o then c1 r c (.fld f) o else none
 |.Call f args iV pos=>(yc r c f args iV).orElse λ_=>(vQ c f args iV).orElse λ_=>Ca r c f args iV pos
 |.ListComp elt gens sc _=>qR r c elt gens sc
 |.Set es k _=>CD c es k
 |_=>none
def stepT:Expr->Option ME
 |.UnaryOp op a _=>if op=.Not then(r.t c a).map .cV else none
 |.BoolOp op vs _=>xF r c op vs
 |.Compare a ops bs _=>(vw r c a ops bs).map .dU
 |e=>if Br e then(r.e c e).map .dU else none
def EH:Expr->Option (Str×Pos)
 |.Name x p=>some (x,p)
 |_=>none
def Sr:Expr->Option (Expr×Expr)
 | .Tuple es _ _=>(match es with
  |[a,b]=>some (a,b)
  | _=>none)
 |_=>none
def f7.Ay(x:Str)(px:Pos)(y:Str)(py:Pos)(a b:Expr):Bool:=decide (c.nm.lookup x=some .local)&&decide (c.nm.lookup y=some .local)&&decide (x≠y)&&decide (py.line=px.line)&&fK a&&fK b&&!([a,b].all (foldedForSure 8))&&!([a,b].all (constantsAlone 8))
def f7.xP:List Expr->Expr->Bool
 |[s,t],e=>((EH s).bind λp=>(EH t).bind λq=>(Sr e).map λz=>c.Ay p.1 p.2 q.1 q.2 z.1 z.2).getD false
 |_,_=>false
def EN:Expr->Option ME
 |.Constant k _ _=>(qI k).map .lit
 |_=>none
def wD:List Expr->Option ME
 |[]=>some .nil
 |e::es=>(EN e).bind λm=>(wD es).map λms=>.cons m ms
def EM:Expr->Option ME
 |.List es _=>(wD es).map (.prim .lst)
 |.Constant k _ _=>(qI k).map .lit
 |_=>none
def Sq:List Stmt->Option Expr
 | [s]=>(match s with
  |.Return e _=>e
  | _=>none)
 |_=>none
def Cc:ExceptHandler->Option (Str×Expr)
 |.ExceptHandler t n b _=>if n.isNone then t.bind λt=>(asName t).bind λy=>(Sq b).map λe=>(y,e) else none
def uN:List ExceptHandler->Option (List (Str×ME))
 |[]=>some []
 |h::hs=>(Cc h).bind λq=>if c.exc.contains q.1&&c.gl q.1&&V2 q.1 then(EM q.2).bind λm=>(uN hs).map λms=>(q.1,m)::ms else none
def AD(e f:Option Expr):Option (Str×Expr×List Expr):=if f.isNone then e.bind λe=>(wO e).bind λq=>q.2.head?.map λa=>(q.1,a,q.2.tail) else none
def f7.vp(f:Str):List Str:=(c.mY.filter λy=>decide (y.1=f)).map (·.2)
def Cd:List Expr->Option (Expr×Expr×Expr×Expr)
 |_=>none
def Sm(e:Expr):Option ME:=match e with
 |.DictComp kx vx gens sc _=>yd r c kx vx gens sc
 |e=>r.e c e
def Et(tg e:Expr):Option MS:=match tg with
 |.Name x _=>if c.z7 x then(c.idx x).bind λi=>(r.e c e).map λm=>.set i m else none
 |.Tuple es _ _=>(Cd es).elim (if(sf e&&A5 e)||c.xP es e then(c.slots es).bind λis=>(r.e c e).map λm=>.lF (.many is) m else none) λq=>if A5 e&&fK q.2.1&&fK q.2.2.2 then(r.e c q.1).bind λm1=>(r.e c q.2.1).bind λn1=>(r.e c q.2.2.1).bind λm2=>(r.e c q.2.2.2).bind λn2=>(r.e c e).map λm=>.vT m1 n1 m2 n2 m else none
 |.Subscript o i _=>if fK i&&A5 e then(r.e c o).bind λmo=>(r.e c i).bind λmi=>(r.e c e).map λm=>.cN mo mi m else none
 |.Attribute o f _=>(r.e c o).bind λmo=>(Sm r c e).map λm=>.fT f (c.vp f) mo m
 |_=>none
def EJ:Operator->Option Pr
 |.Add=>some .iadd
 |.Sub=>some .nG
 |_=>none
def toR(e:Expr)(m:ME):ME:=(λ(_:f7)=>m) c
def Fh:Stmt->Option MS
 |.Expr e _=>if A5 e then(r.e c e).map .expr else none
 | .Assign yh e _=>(match yh with
  |[tg]=>Et r c tg e
  | _=>none)
 | .AugAssign tg op e _=>(match tg with
  |.Attribute o f _=>if decide (op=.Add) then(r.e c o).bind λmo=>(r.e c e).map λm=>.jU f (c.vp f) mo m else none
  |.Name x _=>if c.z7 x then(EJ op).bind λp=>(c.idx x).bind λi=>(r.e c e).map λm=>.jy i p m else none
  | _=>none)
 |.If t a b _=>(r.t c t).bind λmt=>(u3 r c a).bind λma=>(u3 r c b).map λmb=>.ifs mt ma mb
 |.For tg it body nS _=>if c.lJ&&(nS.isEmpty&&fK it) then(c.tg tg).bind λt=>(uO r c tg it).bind λmi=>(u3 r c body).map λmb=>.eM t mi mb else none
 |.While t body nS _=>if c.lJ&&nS.isEmpty then(r.t c t).bind λmt=>(u3 r c body).map λmb=>.iT mt mb else none
 | .Return e _=>(match e with
  |some e=>(r.e c e).map λm=>.ret (toR c e m)
  | none=>some .pJ)
 |.Pass _=>some .pass
 |.Raise e f _=>(AD e f).bind λq=>if c.jm&&c.exc.contains q.1&&c.gl q.1&&V2 q.1 then(L3 r c (q.2.1::q.2.2)).map (.raise q.1) else none
 |.Try body hs el fi _=>if c.iU&&!hs.isEmpty&&el.isEmpty&&fi.isEmpty then(u3 r { c with jm:=false,iU:=false } body).bind λmb=>(uN c hs).map λms=>.oj mb ms else none
 |_=>none
end
def comp:Nat->CF
 |0=>⟨λ_ _=>none,λ_ _=>none,λ_ _=>none⟩
 |n+1=>⟨Fg (comp n),stepT (comp n),λc s=>(Fh (comp n) c s).orElse λ_=>some (.expr .no)⟩
structure gO(X:Cx)(c:f7)(P:eO)(Ξ:gL):Prop where
 N:X.N=c.N
 nd:c.N.Nodup
 loc:∀x,c.nm.lookup x=some .local->X.env.scope.names.lookup x=some .local
 wA:∀x,c.nm.lookup x=some .cell->X.env.scope.names.lookup x=some .cell
 zY:∀x,c.nm.lookup x=some .free->X.env.scope.names.lookup x=some .cell\/X.env.scope.names.lookup x=some .free
 Ee:∀x,c.nm.lookup x=some .globalImplicit->X.env.scope.names.lookup x=some .globalImplicit
 cells:∀x,(c.nm.lookup x=some .cell\/c.nm.lookup x=some .free)->∃a,X.env.cells.lookup x=some a
 lJ:∀x,c.nm.lookup x=some .cell->X.fn x=true
 calm:X.calm=true
 units:X.A.units+100<cLine
 own:c.lJ=true->PassesOwn (model X.prog X.w) X.A X.env X.xe
 mono:j5 P
 con:∀x d,c.con.lookup x=some d->∃v u,X.mg x=some u/\RelV v u/\∀ρ H,f6 X.K ρ H d v
 blt:∀x,c.blt.contains x=true->X.mg x=none
 fns:∀x f,c.fns.lookup x=some f->∃k fa fd ps,ni X P Ξ.1 k f fa fd ps/\q8 k X.A/\X.mg x=some (.ref fa)/\PySem.W.keepIn X.K (.ref fa)=true
 cls:∀x f,c.cls.lookup x=some f->∃k C fa fd ps,ni X P Ξ.1 k f fa fd ps/\q8 (k+1) X.A/\X.mg x=some (.ref C)/\p7 X.K x C/\iQ X.K C/\Mk X.K C fa
 mQ:∀m y f C,(m,y,f)∈c.mQ->p7 X.K y C->∃k fa fd ps,Meth X.K C m fa/\ni X P Ξ.1 k f fa fd ps/\q8 k X.A
 mY:∀f y C,(f,y)∈c.mY->p7 X.K y C->w9 X.K C f
 wu:Ξ.1=c.exc
 pass:Passes (gN X.prog X.w) X Ξ.2
 jm:c.jm=true->wN X Ξ.2
 iU:c.iU=true->X.stack=X.env::X.outer/\X.env.frame=some X.env.locals/\uW X Ξ.2
 exc:∀x,c.exc.contains x=true->∃C,X.mg x=some (.ref C)/\p7 X.K x C/\∃B newId gq bm,OwnCls x C bm newId X.mg X.base/\ExcBaseFacts B newId gq bm
 Aa:∀x y C C',c.exc.contains x=true->c.exc.contains y=true->p7 X.K x C->p7 X.K y C'->PySem.W.exmOne X.K (.ref C) (.ref C')=some (decide (x=y\/y="MintError"))
 uv:∀x kvs,c.gd.lookup x=some kvs->xC X x kvs
 code:c.lJ=true->PySem.W.kdsCode X.K X.env.code=true
theorem Nu(h:c.idx x=some i):c.N[i]?=some x:=by
 unfold f7.idx at h;rw[jX] at h;obtain⟨h1,h2,_⟩:=h;rw[aC h1,aN h2]
theorem gO.Fn(C:gO X c P Ξ)(h:c.pE x=true):vy X.env.scope x:=by
 unfold f7.pE at h;split at h
 ·rename_i e;exact .inl (C.loc x e)
 ·rename_i e;exact .inr (.inl (C.wA x e))
 ·rename_i e;rcases C.zY x e with z|z
  ·exact .inr (.inl z)
  ·exact .inr (.inr z)
 ·cases h
theorem gO.v7(C:gO X c P Ξ)(h:c.gl x=true):Gl X x:=C.Ee x (aN h)
theorem gO.z7(C:gO X c P Ξ){x:Str}(h:c.z7 x=true):Loc X.env.scope x/\(X.fn x=true\/X.env.scope.names.lookup x=some .local):=by
 unfold f7.z7 at h;rw[eJ] at h;rcases h with h|h
 ·have:=C.loc x (aN h);exact⟨.inl this,.inr this⟩
 ·exact⟨.inr (C.wA x (aN h)),.inl (C.lJ x (aN h))⟩
theorem gO.pb(C:gO X c P Ξ)(h:c.idx x=some i):X.N[i]?=some x:=by rw[C.N];exact Nu h
theorem gO.oI(C:gO X c P Ξ):X.N.Nodup:=by rw[C.N];exact C.nd
theorem Bt(h:asName e=some x):∃p,e=.Name x p:=by
 cases e<;>first|(cases h;exact⟨_,rfl⟩)|cases h
theorem IA(h:c.slot e=some i):∃x p,e=.Name x p/\c.z7 x=true/\c.idx x=some i:=by
 unfold f7.slot at h;obtain⟨x,hx,h2⟩:=ag.mp h;obtain⟨p,rfl⟩:=Bt hx;split at h2
 ·exact⟨x,p,rfl,by assumption,h2⟩
 ·cases h2
theorem gO.slots(C:gO X c P Ξ):∀{es:List Expr} {is:List Nat},c.slots es=some is->fH X es is:=by
 intro es
 induction es with
 |nil=>intro is h;cases h;exact .nil
 |cons e r ih =>
  intro is h;unfold f7.slots at h;obtain⟨i,hi,h⟩:=ag.mp h;obtain⟨is',hs,rfl⟩:=ae.mp h;obtain⟨x,p,rfl,hl,hx⟩:=IA hi;exact .cons (C.pb hx) (C.z7 hl).1 (C.z7 hl).2 (ih hs)
theorem orElse_some{α:Type}{a:Option α}{b:Unit->Option α}{m:α}(h:a.orElse b=some m):a=some m\/b ()=some m:=by
 cases a with
 |none=>exact .inr h
 |some x=>exact .inl h
theorem gO.Ez(C:gO X c P Ξ){tg:Expr}{t:MT}(h:c.tg tg=some t):PG X tg (LG X.K t):=by
 unfold f7.tg at h;rcases orElse_some h with h|h
 ·obtain⟨i,hi,rfl⟩:=ae.mp h;obtain⟨x,p,rfl,hl,hx⟩:=IA hi;exact Ml C.oI (C.pb hx) (C.z7 hl).1 (C.z7 hl).2
 ·cases tg<;>first|(cases h;done)|skip
  obtain⟨is,hs,rfl⟩:=ae.mp (show(c.slots _).map MT.many=some t from h);exact Ia C.calm C.oI (C.slots hs)
theorem l4(h:fK e=true):starEach (e::es) env=(false,eval e env)::starEach es env:=by
 cases e<;>first|rfl|cases h
theorem xl(h:fK e=true):∀x,foldedSetIterable e env x=pure x:=by
 intro x;cases e<;>first|rfl|cases h
theorem IV(h:fK e=true):AA e:=by
 intro o i;cases e<;>first|rfl|cases h
theorem NQ{i:Expr}{tp:Pos}(h:fK i=true):∀v,assign (.Subscript o i tp) env v=(do
      let ov <- holding [v] (eval o env)
      let iv <- holding [v,ov] (eval i env)
      standAt tp
      holding [v,ov,iv] (setItem ov iv v)
      release [v,ov,iv] []):=by
  intro v;cases i<;>first|rfl|cases h
theorem Bq{t:Option Expr}(h:A5 e=true):swapsWith e t n env=pure false:=by
 cases e<;>first|rfl|cases h
theorem Qn{k:Nat}{p:Pos}(h:sf e=true):swappedStores [.Tuple es k p] e env=pure none:=by
 cases e<;>first|rfl|cases h
theorem WX(h:Br e=true):∀whole,isTrue e env whole=(do let v <- whole;standAt e.pos;holding [v] (truthy v)):=by
 intro w;cases e<;>first|rfl|cases h
theorem Z7{q:Str×List Expr}(h:wO e=some q):∃p pos,e=.Call (.Name q.1 p) q.2 [] pos:=by
 cases e<;>first|(cases h;done)|skip
 rename_i f as iV pos;cases f<;>first|(cases h;done)|skip
 cases iV<;>first|(cases h;done)|skip
 cases h;exact⟨_,_,rfl⟩
theorem a53(h:EI e=true):∃es k p,e=.Tuple es k p:=by
 cases e<;>first|exact⟨_,_,_,rfl⟩|cases h
theorem Il{kvs:List D}(h:c.xt b=some kvs):∃x p,b=.Name x p/\c.gl x=true/\V2 x=true/\c.gd.lookup x=some kvs:=by
 unfold f7.xt at h;obtain⟨x,hx,h2⟩:=ag.mp h;obtain⟨p,rfl⟩:=Bt hx;split at h2
 ·rename_i hc;rw[ba] at hc;exact⟨x,p,rfl,hc.1,hc.2,h2⟩
 ·cases h2
theorem G9{f:Str}(h:su o=true):attributeBase o f env (eval o env)=eval o env:=by
 cases o<;>first|rfl|skip
 rename_i f as iV pos;cases f<;>first|rfl|cases h
theorem AG{env:Env}:∀(names:List (Str×NameKind)) (acc:List (Str×Addr)),(∀y∈names,y.2=.free->∃a,env.cells.lookup y.1=some a)->(∀x a,acc.lookup x=some a->env.cells.lookup x=some a) ->
  ∃ cl,(forIn names acc λ(y:Str × NameKind) (cs:List (Str × Addr))=>(match y with
   |(name,kind)=>if(kind==NameKind.free)=true then do
     let __do_lift <- cellOf env name
     pure (ForInStep.yield ((name,__do_lift)::cs))
    else pure (ForInStep.yield cs):Sem (ForInStep (List (Str × Addr)))))=pure cl/\(∀ x a,cl.lookup x=some a->env.cells.lookup x=some a)/\(∀ y ∈ names,y.2=.free->∃ a,cl.lookup y.1=some a)/\∀ x a,acc.lookup x=some a->∃ a',cl.lookup x=some a'
 |[],acc,_,h2=>⟨acc,rfl,h2,λy hy=>absurd hy (by simp),λx a h=>⟨a,h⟩⟩
 |(n,k)::r,acc,h1,h2=>by
  rw[List.forIn_cons];by_cases hk:k=.free
  ·subst hk;obtain⟨a,ha⟩:=h1 (n,.free) (by simp) rfl;have hc:cellOf env n=pure a:=by unfold cellOf;rw[ha]
   obtain ⟨cl,e,q1,q2,q3⟩:=AG r ((n,a) :: acc) (λy hy=>h1 y (by simp [hy])) (λx b hb=>by
    rw[cz] at hb;cases hx:x==n with
    |true=>rw[hx] at hb;cases hb;rw[eq_of_beq hx];exact ha
    | false=>rw [hx] at hb;exact h2 x b hb)
   refine⟨cl,?_,q1,λy hy hf=>?_,λx b hb=>?_⟩
   ·simp only[beq_self_eq_true,if_true,hc];exact e
   ·rcases ay.mp hy with z|z
    ·subst z;exact q3 n a (by simp[List.lookup_cons])
    ·exact q2 y z hf
   ·cases hx:x==n with
    |true=>exact q3 x a (by rw[cz,hx])
    |false=>exact q3 x b (by rw[cz,hx];exact hb)
  ·have hb:(k==NameKind.free)=false:=by simpa using hk
   obtain⟨cl,e,q1,q2,q3⟩:=AG r acc (λy hy=>h1 y (by simp[hy])) h2;refine⟨cl,?_,q1,λy hy hf=>?_,q3⟩
   ·simp only[hb,Bool.false_eq_true,if_false];exact e
   ·rcases ay.mp hy with z|z
    ·subst z;exact absurd hf hk
    ·exact q2 y z hf
theorem a06{P:Program}{w:World}:Passes (gN P w) X (λ_ _ _=>False):=λ_ _ _ _ _ _ _ h=>by
 obtain⟨_,_,_,_,_,_,_,z⟩:=h;exact z.elim
theorem T5{env:Env}:∀{names:List (Str×NameKind)} {x:Str},names.lookup x=some .globalImplicit ->
  (names.map λ(n,k)=>if(k==NameKind.free&&env.scope.kind==.function&&env.kindOf n==some .cell) then(n,NameKind.cell) else(n,k)).lookup x=some .globalImplicit
 |[],_,h=>by simp at h
 |(n,k)::r,x,h=>by
  have ih:=@T5 env r x;show List.lookup x ((if(k==NameKind.free&&env.scope.kind==.function&&env.kindOf n==some .cell)=true then(n,NameKind.cell) else(n,k))::_)=_;cases hx:x==n with
  |true =>
   simp only[List.lookup_cons,hx] at h;cases h;simp[List.lookup_cons,hx]
  |false =>
   simp only[List.lookup_cons,hx] at h;by_cases hc:(k==NameKind.free&&env.scope.kind==.function&&env.kindOf n==some .cell)=true
   ·rw[aG hc];simp only[List.lookup_cons,hx];exact ih h
   ·rw[az hc];simp only[List.lookup_cons,hx];exact ih h
theorem gO.comp(C:gO X c P Ξ)(h:c.xf sc=true):∃cl,cI X sc (frees sc++locals sc) (c.d6 sc) cl/\∀pins A s H fp,gO (b9 X pins sc (frees sc++locals sc) cl A s H fp) (c.inner sc) P (nh Ξ.1):=by
 unfold f7.xf at h;simp only[Bool.and_eq_true,decide_eq_true_eq,List.all_eq_true] at h;obtain⟨⟨⟨⟨h1,h2⟩,h3⟩,h4⟩,h5⟩:=h;have mx:∀x,sc.names.lookup x=some .free->x∈frees sc:=λx hx=>by
  unfold frees;exact au.mpr ⟨(x,.free),bE.mpr ⟨aK hx,by simp⟩,rfl⟩
 have fr:∀x∈frees sc,(∃i,c.idx x=some i)/\sc.names.lookup x=some .free/\(c.nm.lookup x=some .cell\/c.nm.lookup x=some .free):=λx hx=>by
  have:=h5 x hx;rw[eF,eJ] at this;simp only[decide_eq_true_eq] at this;exact⟨this.1.1,this.1.2,this.2⟩
 have qq:∀y∈sc.names,y.2=.free->∃a,X.env.cells.lookup y.1=some a:=λy hy hf=>by
  have hm:y.1∈frees sc:=au.mpr ⟨y,bE.mpr ⟨hy,by simp[hf]⟩,rfl⟩;exact C.cells y.1 (fr y.1 hm).2.2
 obtain⟨cl,e,q1,q2,_⟩:=AG sc.names [] qq (λx a h=>by simp at h);have h2:∀y∈sc.names,y.2=.cell->sc.names.lookup y.1=some .cell:=λy hy hl=>by
  have:=h2 y hy;rw[eJ] at this;simp only[Bool.not_eq_true',decide_eq_false_iff_not,decide_eq_true_eq] at this;exact this.resolve_left λz=>z hl
 refine⟨cl,⟨h1,h2,λy hy hl=>?_,?_,q1,λx hx=>q2 (x,.free) (aK hx) rfl,h4,λi j iN=>?_,?_⟩,λpins A s H fp=>?_⟩
 ·have:=h3 y hy;rw[eJ] at this;simp only[Bool.not_eq_true',decide_eq_false_iff_not,decide_eq_true_eq] at this;exact this.resolve_left λz=>z hl
 ·simp only[closureFor];rw[e]
  rfl
 ·unfold f7.d6 at iN;rw[aB] at iN;cases ex:(frees sc)[i]? with
  |none=>rw[ex] at iN;cases iN
  |some x =>
   rw[ex] at iN;have hx:x∈frees sc:=bg ex;obtain⟨⟨k,hk⟩,hl,hc⟩:=fr x hx;have hj:k=j:=by
    have:=aF iN;dsimp only at this;rw[hk] at this;exact this
   subst hj;refine⟨x,?_,C.pb hk,hl,?_⟩
   ·rw[aH (aD.mp ex).1];exact ex
   ·rcases hc with z|z
    ·exact .inl (C.wA x z)
    ·exact C.zY x z
 ·unfold f7.d6;rw[ao,bz];omega
 ·refine⟨rfl,h4,λx hx=>lookup_relabel_local hx,λx hx=>?_,λx hx=>J1 hx,λx hx=>T5 hx,λx hx=>?_,λx _=>?_,rfl,C.units,(λ_=>PassesOwn.never),C.mono,C.con,C.blt,C.fns,C.cls,C.mQ,C.mY,C.wu,a06,(λz=>by cases z),(λz=>by cases z),C.exc,C.Aa,C.uv,(λz=>by cases z)⟩
  ·exact P0 hx
  ·rcases hx with hx|hx
   ·exact FR (.inl hx)
   ·exact FR (.inr (q2 (x,.free) (aK hx) rfl))
  ·exact aL ‹_›
theorem G0(h:V2 x=true):(x==("__debug__":Str))=false/\(x==("__classdict__":Str))=false/\x≠"__name__":=by
 unfold V2 at h;simp only[Bool.and_eq_true,decide_eq_true_eq,beq_iff_eq] at h;exact⟨h.1.1,h.1.2,h.2⟩
theorem ZX{t:String}(h:BY.lookup x=some t):bootBuiltins x=some (.type t):=by
 have hm:=aK h;simp only[BY,List.mem_cons,List.mem_nil_iff,or_false] at hm;rcases hm with z|z|z|z|z<;>(cases z;first|exact vO|exact PyProof.Rows.boot_bool|exact PyProof.Rows.boot_str|exact qY|exact eY|decide +kernel|rfl)
theorem a52(hc:X.calm=true)(h:Ce.lookup x=some p):∃v,((∃id,v=.builtin id)\/∃T,v=.type T)/\bootBuiltins x=some v/\m7 X v (rN X.K p):=by
 have hm:=aK h;simp only[Ce,List.mem_cons,List.mem_nil_iff,or_false] at hm;rcases hm with z|z|z|z|z|z|z|z|z
 ·cases z;exact⟨.builtin "len",.inl ⟨_,rfl⟩,PySem.boot_len,Vi⟩
 ·cases z;exact⟨.type "list",.inr ⟨_,rfl⟩,by first|exact eY|decide +kernel,NG hc⟩
 ·cases z;exact⟨.type "tuple",.inr ⟨_,rfl⟩,by first|exact qY|decide +kernel,ZU⟩
 ·cases z;exact⟨.builtin "isinstance",.inl ⟨_,rfl⟩,by first|exact PyProof.Rows.boot_isinstance|decide +kernel,Nx⟩
 ·cases z;exact⟨.builtin "all",.inl ⟨_,rfl⟩,by first|exact PyProof.Rows.boot_all|decide +kernel,UJ hc⟩
 ·cases z;exact⟨.type "int",.inr ⟨_,rfl⟩,by first|exact vO|decide +kernel,UZ⟩
 ·cases z;exact⟨.builtin "sorted",.inl ⟨_,rfl⟩,by first|exact gF|decide +kernel,ZM hc⟩
 ·cases z;exact⟨.builtin "sum",.inl ⟨_,rfl⟩,by first|exact PyProof.Rows.boot_sum|decide +kernel,My hc⟩
 ·cases z;exact⟨.type "set",.inr ⟨_,rfl⟩,by first|exact iD|decide +kernel,ND hc⟩
theorem XM(h:vi.lookup x=some p):∃T id,PlainAttrs T/\Slot T x id/\typeOf (.builtin id)=pure (.type "method_descriptor")/\kB X id (rM X.K p) /\
  ∀{d:D} {v:V} {g:G} {ρ:List Addr} {H:Hp},Rl X.K ρ g H->f6 X.K ρ H d v->nE p d g->mO X.K T v H:=by
 have hm:=aK h;simp only[vi,List.mem_cons,List.mem_nil_iff,or_false] at hm;rcases hm with z|z
 ·cases z;exact⟨_,_,eQ,PySem.F.slot_list_clear,PySem.F.type_list_clear,Pw,λR r h=>ty_list R r h⟩
 ·cases z;exact⟨_,_,eQ,vM,vL,Oi,λR r h=>ty_list R r h⟩
theorem a18(hu:X.A.units+100<cLine)(h:Cm.lookup x=some p):∃T id,PlainAttrs T/\Slot T x id/\typeOf (.builtin id)=pure (.type "method_descriptor")/\kB X id (rM X.K p) /\
  ∀{d:D} {v:V} {g:G} {ρ:List Addr} {H:Hp},Rl X.K ρ g H->f6 X.K ρ H d v->nE p d g->mO X.K T v H:=by
 have hm:=aK h;simp only[Cm,List.mem_cons,List.mem_nil_iff,or_false] at hm;rcases hm with z|z|z
 ·cases z;exact⟨_,_,eQ,PySem.F.slot_list_append,PySem.F.type_list_append,a55,λR r h=>ty_list R r h⟩
 ·cases z;exact⟨_,_,eQ,vM,vL,QF,λR r h=>ty_list R r h⟩
 ·cases z;exact⟨_,_,PySem.F.plainAttrs_set,PySem.F.slot_set_add,PySem.F.type_set_add,Oy,λR r h=>ty_set R r h⟩
theorem IC{pos:Pos}{env:Env}:∀{es:List Expr},(∀e∈es,fK e=true)->(backTo pos (starEach es env)).all (λx=>!x.1)=true
 |[],_=>rfl
 |e::es,h=>by
  rw[l4 (h e (by simp))];have ih:=IC (pos:=pos) (env:=env) (es:=es) λx hx=>h x (by simp[hx]);unfold backTo at ih ⊢;rw[bc,gG,ih]
  rfl
theorem P2{pos:Pos}{env:Env}:∀{es:List Expr},(∀e∈es,fK e=true)->(backTo pos (starEach es env)).any (·.1)=false
 |[],_=>rfl
 |e::es,h=>by
  rw[l4 (h e (by simp))];have ih:=P2 (pos:=pos) (env:=env) (es:=es) λx hx=>h x (by simp[hx]);unfold backTo at ih ⊢;rw[bc,fz,ih]
  rfl
theorem AU:∀{es:List Expr} {m:ME},L3 r c es=some m->∀e∈es,fK e=true:=by
 intro es
 induction es with
 |nil=>intro m _ e he;exact absurd he (by simp)
 |cons a es ih =>
  intro m h e he;unfold L3 at h;split at h
  ·obtain⟨m1,h1,h⟩:=ag.mp h;obtain⟨m2,h2,_⟩:=ae.mp h;rcases ay.mp he with z|z
   ·rw[z];assumption
   ·exact ih h2 e z
  ·cases h
theorem Xq(h:IL a=some x):∃j p,a=.Constant (.str x) j p:=by
 cases a with
 |Constant k j p=>cases k with
  |str y=>cases h;exact⟨_,_,rfl⟩
  |_=>cases h
 |_=>cases h
theorem Pn(h:Fv a=some e):∃p,a=.FormattedValue e (-1) none p:=by
 cases a with
 |FormattedValue v k f p=>cases f with
  |none =>
   have h2:(if k=-1 then some v else none)=some e:=h;split at h2
   ·rename_i hk;cases h2;rw[hk];exact⟨_,rfl⟩
   ·cases h2
  |some _=>cases h
 |_=>cases h
structure pq(P:eO)(r:CF):Prop where
 e:∀X c Ξ,gO X c P Ξ->∀e m,r.e c e=some m->PE X e (LE X.K Ξ (aS P m))
 t:∀X c Ξ,gO X c P Ξ->∀e m,r.t c e=some m->PT X e (LT X.K Ξ (dw P m))
 s:∀X c Ξ,gO X c P Ξ->∀st m,r.s c st=some m->PS X st (LS X.K Ξ (wpS P m))
section
variable(S:pq P r)(C:gO X c P Ξ)
include S C
theorem sj(h:c1 r c p a=some m):∃ma,PE X a (LE X.K Ξ (aS P ma))/\m=.prim p (.cons ma .nil):=by
 obtain⟨ma,ha,rfl⟩:=ae.mp h;exact⟨ma,S.e X c Ξ C _ _ ha,rfl⟩
theorem sk(h:c2 r c p a b=some m):∃ma mb,PE X a (LE X.K Ξ (aS P ma))/\PE X b (LE X.K Ξ (aS P mb))/\m=.prim p (.cons ma (.cons mb .nil)):=by
 obtain⟨ma,ha,h⟩:=ag.mp h;obtain⟨mb,hb,rfl⟩:=ae.mp h;exact⟨ma,mb,S.e X c Ξ C _ _ ha,S.e X c Ξ C _ _ hb,rfl⟩
theorem rh:∀{es:List Expr} {m:ME},L3 r c es=some m->PA X es (LA X.K Ξ (fe P m)):=by
 intro es
 induction es with
 |nil=>intro m h;cases h;exact M1 C.mono
 |cons a es ih =>
  intro m h;unfold L3 at h;split at h
  ·rename_i bw;obtain⟨m1,h1,h⟩:=ag.mp h;obtain⟨m2,h2,rfl⟩:=ae.mp h;exact B5 C.mono (S.e X c Ξ C _ _ h1) (ih h2) (l4 bw)
  ·cases h
theorem J':∀{es:List Expr} {m:ME},rX r c es=some m->∃ts,lK X Ξ P es m ts:=by
 intro es
 induction es with
 |nil=>intro m h;cases h;exact⟨_,.nil⟩
 |cons a es ih =>
  intro m h;unfold rX at h;rcases orElse_some h with h1|h1
  ·obtain⟨x,hx,h2⟩:=ag.mp h1;obtain⟨j,p,rfl⟩:=Xq hx;split at h2
   ·obtain⟨m2,h3,rfl⟩:=ae.mp h2;obtain⟨ts,F⟩:=ih h3;exact⟨_,.lit (by assumption) F⟩
   ·cases h2
  ·obtain⟨x,hx,h2⟩:=ag.mp h1;obtain⟨m1,h3,h4⟩:=ag.mp h2;obtain⟨m2,h5,rfl⟩:=ae.mp h4;obtain⟨p,rfl⟩:=Pn hx;obtain⟨ts,F⟩:=ih h5;exact⟨_,.val (S.e X c Ξ C _ _ h3) F⟩
theorem Kb:∀{ks:List (Option Expr)} {vs:List Expr} {m:ME},uM r c ks vs=some m->∃hX,lL X Ξ P ks vs m hX:=by
 intro ks
 induction ks with
 |nil=>intro vs m h;cases vs<;>first|(cases h;exact⟨_,.nil⟩)|cases h
 |cons k ks ih =>
  intro vs m h;cases k<;>first|(cases h;done)|skip
  cases vs<;>first|(cases h;done)|skip
  unfold uM at h;obtain⟨m1,h1,h⟩:=ag.mp h;obtain⟨m2,h2,h⟩:=ag.mp h;obtain⟨m3,h3,rfl⟩:=ae.mp h;obtain⟨hX,D⟩:=ih h3;exact⟨_,.cons (S.e X c Ξ C _ _ h1) (S.e X c Ξ C _ _ h2) D⟩
theorem Kc{op:BoolOp}:∀{vs:List Expr} {m:ME},xE r c op vs=some m->PE X (.BoolOp op vs pos) (LE X.K Ξ (aS P m)):=by
 intro vs
 induction vs with
 |nil=>intro m h;cases h
 |cons a vs ih =>
  intro m h;cases vs with
  |nil=>exact VM (S.e X c Ξ C _ _ h)
  |cons b vs =>
   unfold xE at h;obtain⟨m1,h1,h⟩:=ag.mp h;obtain⟨m2,h2,rfl⟩:=ae.mp h;cases op
   ·exact Ma C.mono (S.e X c Ξ C _ _ h1) (ih h2)
   ·exact Uh C.mono (S.e X c Ξ C _ _ h1) (ih h2)
theorem JX{op:BoolOp}:∀{vs:List Expr} {m:ME},xF r c op vs=some m->PW X (.BoolOp op vs pos) (LT X.K Ξ (dw P m)):=by
 intro vs
 induction vs with
 |nil=>intro m h;cases h
 |cons a vs ih =>
  intro m h;cases vs with
  |nil =>
   cases op
   ·exact Ov (S.t X c Ξ C _ _ h)
   ·exact V' (S.t X c Ξ C _ _ h)
  |cons b vs =>
   unfold xF at h;obtain⟨m1,h1,h⟩:=ag.mp h;obtain⟨m2,h2,rfl⟩:=ae.mp h;cases op
   ·exact Mz C.mono (S.t X c Ξ C _ _ h1) (ih h2)
   ·exact Uk C.mono (S.t X c Ξ C _ _ h1) (ih h2)
theorem Ri(h:IM r c es=some m):jD X es (LT X.K Ξ (dw P m)):=by
 rcases es with _|⟨e,_|⟨_,_⟩⟩
 ·cases h;exact OV C.mono
 ·exact HR (S.t X c Ξ C _ _ h)
 ·cases h
theorem rR:∀{Dj:List Stmt} {m:MS},u3 r c Dj=some m->iP X Dj (LS X.K Ξ (wpS P m)):=by
 intro es
 induction es with
 |nil=>intro m h;cases h;exact Hh C.mono
 |cons a es ih =>
  intro m h;unfold u3 at h;obtain⟨m1,h1,h⟩:=ag.mp h;obtain⟨m2,h2,rfl⟩:=ae.mp h;exact Ib C.mono (S.s X c Ξ C _ _ h1) (ih h2)
end
theorem GQ{t:Expr}(h:A5 e=true):swapsWithSole [t] e n env=pure false:=by
 show swapsWith e (some t) n env=pure false;exact Bq h
theorem XR{y:Str}{py pt oH:Pos}{kt k2:Nat}(hk:env.scope.kind=.function)(hx:env.kindOf x=some .local)(hy:env.kindOf y=some .local)(fk:x≠y)(hl:py.line=px.line)(ha:fK a=true)(hb:fK b=true)(h1:[a,b].all (foldedForSure 8)=false)(h2:[a,b].all (constantsAlone 8)=false):swappedStores [.Tuple [.Name x px,.Name y py] kt pt] (.Tuple [a,b] k2 oH) env=pure (some [x,y]):=by
 have KZ:env.blockKind=.function:=by simp[Env.blockKind,hk,ScopeKind.isAnnotationScope]
 have hd:[x,y].eraseDups.length=2:=by
  have:(y==x)=false:=by simpa using aZ fk
  simp[List.eraseDups_cons,this]
 have yI:(env.kindOf x==some NameKind.local&&px.line==px.line)=true:=by simp[hx]
 have yH:(env.kindOf y==some NameKind.local&&py.line==px.line)=true:=by simp[hy,hl]
 have hp:Expr.pos (.Name x px)=px:=rfl;unfold swappedStores;simp only[List.length_cons,List.length_nil,KZ,List.head?_cons,Option.map_some,Option.getD_some,hp,List.filterMap_cons,List.filterMap_nil,yI,yH,if_true,hd,h1,h2];rw[az (by decide),az ?_]
 ·rfl
 ·simp only[List.any_cons,List.any_nil,Bool.or_false,Bool.or_eq_true,not_or];constructor
  ·cases a<;>first|(intro h;cases h;done)|cases ha
  ·cases b<;>first|(intro h;cases h;done)|cases hb
theorem MB(hP:j5 P){j:Nat}{y:Str}{py pt oH:Pos}{kt k2:Nat}{fW:ME}(hc:X.calm=true)(hN:X.N.Nodup)(hi:X.N[i]?=some x)(hj:X.N[j]?=some y)(fk:x≠y)(hl:py.line=px.line)(hx:X.env.scope.names.lookup x=some .local)(hy:X.env.scope.names.lookup y=some .local)(oa:fK a=true)(ob:fK b=true)(h1:[a,b].all (foldedForSure 8)=false)(h2:[a,b].all (constantsAlone 8)=false)(ha:PA X [a,b] (LA X.K Ξ (fe P fW))):PS X (.Assign [.Tuple [.Name x px,.Name y py] kt pt] (.Tuple [a,b] k2 oH) pos) (LS X.K Ξ (wpS P (.lF (.many [i,j]) (.prim .tup fW)))):=by
 intro pins s bN H D I h;have iN:i≠j:=by
  rintro rfl;rw[hi] at hj;cases hj;exact fk rfl
 refine VU hc hN hi hj iN hx hy ha (XR I.ok.kind hx hy fk hl oa ob h1 h2) rfl pins s bN H D I ?_;obtain⟨Z,g,ρ,sr,R,h⟩:=h;refine jc hP sr R (.refl _ _) (show fe P fW Z g (λxs g1=>cK .tup xs g1 _) _ from h) λds g1 bH H1 vs e1 R1 r1 h=>?_;obtain⟨d',g',⟨_,rfl,rfl⟩,l,bI,ex,hs,h⟩:=h;cases ex;have hl:=BC hs;have e2:∃d1 d2,ds=[d1,d2]:=by
  rcases ds with _|⟨d1,_|⟨d2,_|⟨d3,r⟩⟩⟩<;>first|exact⟨_,_,rfl⟩|(simp at hl;done)|(simp at hl;omega)
 obtain⟨d1,d2,rfl⟩:=e2;obtain⟨v,w,rfl,q1,q2⟩:=r1.two;cases hs;exact⟨_,_,rfl,h bH H1 _ e1 R1 (((sr.ext e1).set i q1).set j q2)⟩
theorem gO.oj(C:gO X c P Ξ)(eU:X.stack=X.env::X.outer)(hf:X.env.frame=some X.env.locals)(pins:List (Addr×Obj))(D:L2.Ends)(hs:List ExceptHandler) :
  gO (X6 X pins (sg X pins D hs)) { c with jm:=false,iU:=false } P (xB X Ξ.1 D hs) :=
 ⟨C.N,C.nd,C.loc,C.wA,C.zY,C.Ee,C.cells,C.lJ,C.calm,C.units,(λ_=>PassesOwn.looking),C.mono,C.con,C.blt,C.fns,C.cls,C.mQ,C.mY,C.wu,Qr eU hf λC H' ⟨C',e,z⟩=>(by cases e;exact z),(λz=>by cases z),(λz=>by cases z),C.exc,C.Aa,C.uv,C.code⟩
theorem Gg{m:Str}{apos:Pos}(hb:su o=true)(hl:(apos.endLine==pos.line)=true)(hf:methodCallForm args.length (backTo pos (starEach args env)) (backToKw pos (keywordEach [] env))=true) :
  eval (.Call (.Attribute o m apos) args [] pos) env=(do
   let ov <- eval o env
   standAt apos.atName
   let (f,first) <- holding [ov] (getMethod ov m (do return (<- importBound o env).getD true))
   callWith pos f first (backTo pos (starEach args env)) (backToKw pos (keywordEach [] env))):=by
 have h1:eval (.Call (.Attribute o m apos) args [] pos) env=(do
   let ov <- attributeBase o m env (eval o env)
   standAt apos.atName
   methodCall o m apos pos env ov (args.length + 0) (backTo pos (starEach args env)) (backToKw pos (keywordEach [] env))):=rfl
 rw[h1,G9 hb];have h2:∀ ov,methodCall o m apos pos env ov (args.length + 0) (backTo pos (starEach args env)) (backToKw pos (keywordEach [] env))=(do
   let (f,first) <- holding [ov] (getMethod ov m (do return (<- importBound o env).getD true))
   callWith pos f first (backTo pos (starEach args env)) (backToKw pos (keywordEach [] env))):=λov=>by
  unfold methodCall calleeOf methodCallPos;rw[Nat.add_zero,hf,hl];simp only[if_true,Bool.not_true,Bool.false_or,pure_bind]
 simp only[h2]
section
variable(S:pq P r)(C:gO X c P Ξ){d:Expr}
include C
theorem Vp(h:Cb c x=some m):PE X (.Name x pos) (LE X.K Ξ (aS P m)):=by
 unfold Cb at h;split at h
 ·rename_i gQ;obtain⟨d1,d2,d3⟩:=G0 gQ;split at h
  ·rename_i hv;obtain⟨i,hi,rfl⟩:=ae.mp h;exact Mi (C.pb hi) (C.Fn hv) d1 d2
  ·split at h
   ·rename_i hg;rcases orElse_some h with h|h
    ·obtain⟨d,hd,rfl⟩:=ae.mp h;obtain⟨v,u,hm,r,rr⟩:=C.con x d hd;exact U9 (xa (C.v7 hg) hm r d1) rr
    ·split at h
     ·rename_i hb;obtain⟨t,ht,rfl⟩:=ae.mp h;exact U9 (v:=.ty t) (NZ (C.v7 hg) (C.blt x hb) (ZX ht) rfl d3 d1) λ_ _=>.ty t
     ·cases h
   ·cases h
 ·cases h
omit C in
theorem yu{k:Const}{j:Nat}{d:D}(h:qI k=some d):PE X (.Constant k j pos) (LE X.K Ξ (aS P (.lit d))):=by
 cases k<;>first|(cases h;done)|skip
 ·cases h;exact U9 VJ λ_ _=>.bf
 ·cases h;exact U9 TJ λ_ _=>.bl _
 ·cases h;exact U9 VH λ_ _=>.int _
 ·cases h;exact U9 IX λ_ _=>.str _
include S
theorem Rj{op:UnaryOp}(h:ya r c op a=some m):PE X (.UnaryOp op a pos) (LE X.K Ξ (aS P m)):=by
 unfold ya at h;split at h
 ·rename_i ho;subst ho;obtain⟨ma,ha,rfl⟩:=ae.mp h;exact Mg C.mono (S.e X c Ξ C _ _ ha)
 ·obtain⟨ma,ha,rfl⟩:=sj S C h;exact Ui C.mono ha
theorem EY{ops:List CmpOp}{bs:List Expr}(h:vw r c a ops bs=some m):PE X (.Compare a ops bs pos) (LE X.K Ξ (aS P m))/\PT X (.Compare a ops bs pos) (LT X.K Ξ (dw P (.dU m))):=by
 unfold vw at h;split at h
 ·rename_i op b;split at h
  ·cases h
  ·rename_i hm;have hm:behindInMarks op b=false:=by simpa using hm
   rcases orElse_some h with h|h
   ·obtain⟨neg,hn,h⟩:=ag.mp h;obtain⟨kvs,hk,h⟩:=ag.mp h;obtain⟨ma,ha,rfl⟩:=ae.mp h;obtain⟨x,p,rfl,hg,hd,hk⟩:=Il hk;have ho:op=if neg then .NotIn else .In:=by cases op<;>cases hn<;>rfl
    subst ho;exact⟨Me C.mono (C.v7 hg) (G0 hd).1 (C.uv x kvs hk) (S.e X c Ξ C _ _ ha) hm,Mu C.mono (C.v7 hg) (G0 hd).1 (C.uv x kvs hk) (S.e X c Ξ C _ _ ha) hm⟩
   ·obtain⟨ma,mb,ha,hb,rfl⟩:=sk S C h;exact⟨Cn C.mono (HM (sv C.units op) ha hb hm),Mw C.mono (AO (sv C.units op) ha hb hm)⟩
 ·split at h
  ·cases h
  ·rename_i hm;obtain⟨ma,ha,h⟩:=ag.mp h;obtain⟨mb,hb,h⟩:=ag.mp h;obtain⟨md,hd,rfl⟩:=ae.mp h;exact⟨Zy C.mono C.units (S.e X c Ξ C _ _ ha) (S.e X c Ξ C _ _ hb) (S.e X c Ξ C _ _ hd) (by simpa using hm),ZN C.mono C.units (S.e X c Ξ C _ _ ha) (S.e X c Ξ C _ _ hb) (S.e X c Ξ C _ _ hd) (by simpa using hm)⟩
 ·cases h
theorem Rg{lo hi st:Option Expr}{p2:Pos}(h:CY r c a lo hi st=some m):PE X (.Subscript a (.Slice lo hi st p2) pos) (LE X.K Ξ (aS P m)):=by
 cases lo<;>cases hi<;>cases st<;>first|(cases h;done)|skip
 ·obtain⟨ma,ha,rfl⟩:=sj S C h;exact ZH C.mono ha
 ·obtain⟨ma,mb,ha,hb,rfl⟩:=sk S C h;exact ZI C.mono ha hb
 ·obtain⟨ma,mb,ha,hb,rfl⟩:=sk S C h;exact ZJ C.mono ha hb
theorem Tt(h:CG r c a b=some m):PE X (.Subscript a b pos) (LE X.K Ξ (aS P m)):=by
 unfold CG at h;rcases orElse_some h with h|h
 ·obtain⟨q,hq,h⟩:=ag.mp h;have eb:∃p,b=.Slice q.1 q.2.1 q.2.2 p:=by cases b<;>first|(cases hq;exact⟨_,rfl⟩)|cases hq
  obtain⟨p,rfl⟩:=eb;exact Rg S C h
 ·split at h
  ·rename_i hb;rcases orElse_some h with h|h
   ·obtain⟨kvs,hk,h⟩:=ag.mp h;obtain⟨mb,jd,rfl⟩:=ae.mp h;obtain⟨x,p,rfl,hg,hd,hk⟩:=Il hk;exact OD C.mono (C.v7 hg) (G0 hd).1 (C.uv x kvs hk) (S.e X c Ξ C _ _ jd) (IV hb)
   ·obtain⟨ma,mb,ha,jd,rfl⟩:=sk S C h;exact Cn C.mono (Fc (Td C.units) ha jd (IV hb))
  ·cases h
theorem Rh(hg:c.gl x=true)(h:yb r c x e=some m):PE X (.Call (.Name x px) [e] [] pos) (LE X.K Ξ (aS P m)):=by
 unfold yb at h;obtain⟨q,hq,h'⟩:=ag.mp h;clear h;have h:=h';clear h';obtain⟨p,pos',rfl⟩:=Z7 hq;obtain⟨y,as⟩:=q;dsimp only at h ⊢;split at h
 ·rename_i hc;simp only[Bool.and_eq_true,decide_eq_true_eq] at hc;obtain⟨⟨⟨⟨rfl,rfl⟩,hl⟩,hr⟩,rC⟩:=hc;rcases as with _|⟨a,_|⟨b,_|⟨_,_⟩⟩⟩
  ·cases h
  ·dsimp only at h;split at h
   ·rename_i ho;obtain⟨ma,ha,rfl⟩:=sj S C h;exact ZA C.mono C.calm ha (C.v7 hg) (C.blt _ hl) (C.v7 rC) (C.blt _ hr) (l4 ho)
   ·cases h
  ·dsimp only at h;split at h
   ·rename_i ho;rw[ba] at ho;obtain⟨ma,mb,ha,hb,rfl⟩:=sk S C h;exact ZC C.mono C.calm ha hb (C.v7 hg) (C.blt _ hl) (C.v7 rC) (C.blt _ hr) (by rw[l4 ho.1,l4 ho.2];rfl) (l4 ho.2)
   ·cases h
  ·cases h
 ·split at h
  ·rename_i hc;simp only[Bool.and_eq_true,decide_eq_true_eq] at hc;obtain⟨⟨⟨⟨rfl,rfl⟩,hl⟩,hr⟩,rC⟩:=hc;rcases as with _|⟨a,_|⟨_,_⟩⟩
   ·cases h
   ·dsimp only at h;split at h
    ·rename_i ho;obtain⟨ma,ha,rfl⟩:=sj S C h;exact OI C.mono C.calm ha (C.v7 hg) (C.blt _ hl) (C.v7 rC) (C.blt _ hr) (l4 ho)
    ·cases h
   ·cases h
  ·split at h
   ·rename_i hc;simp only[Bool.and_eq_true,decide_eq_true_eq] at hc;obtain⟨⟨⟨⟨rfl,rfl⟩,hl⟩,hr⟩,rC⟩:=hc;rcases as with _|⟨a,_|⟨_,_⟩⟩
    ·cases h
    ·dsimp only at h;split at h
     ·rename_i ho;obtain⟨ma,ha,rfl⟩:=sj S C h;exact OE C.mono C.calm ha (C.v7 hg) (C.blt _ hl) (C.v7 rC) (C.blt _ hr) (l4 ho)
     ·cases h
    ·cases h
   ·cases h
theorem NN(h:Hq r c x args=some m):PE X (.Call (.Name x px) args [] pos) (LE X.K Ξ (aS P m)):=by
 cases args with
 |nil =>
  have h2:Cu c x=some m:=h;unfold Cu at h2;split at h2
  ·rename_i gQ;rw[ba] at gQ;rcases orElse_some h2 with h2|h2
   ·obtain⟨f,hf,rfl⟩:=ae.mp h2;obtain⟨k,fa,fd,ps,F,hr,hm,hk⟩:=C.fns x f hf;exact Zx C.mono C.pass F hr (C.v7 gQ.2) hm hk (G0 gQ.1).1
   obtain⟨f,hf,rfl⟩:=ae.mp h2;obtain⟨k,C',fa,fd,ps,F,hr,hm,hC,iq,M⟩:=C.cls x f hf;exact ZD C.mono C.pass F M hC iq hr (C.v7 gQ.2) hm (G0 gQ.1).1
  ·cases h2
 |cons e es =>
  have h0:Cv r c x e es=some m:=h;clear h;have h:=h0;clear h0;unfold Cv at h;split at h
  ·rename_i gQ;rw[ba] at gQ;obtain⟨d1,d2,d3⟩:=G0 gQ.1;rcases orElse_some h with h|h
   ·cases es with
    |nil=>exact Rh S C gQ.2 h
    |cons _ _=>cases h
   ·obtain⟨ms,nM,h⟩:=ag.mp h;have ok:=AU nM;have pa:=rh S C nM;have eU:=l4 (env:=X.env) (es:=es) (ok e (by simp));have gj:=P2 (pos:=pos) (env:=X.env) (es:=es) λz hz=>ok z (by simp[hz]);rcases orElse_some h with h|h
    ·obtain⟨f,hf,rfl⟩:=ae.mp h;obtain⟨k,fa,fd,ps,F,hr,hm,hk⟩:=C.fns x f hf;exact Oz C.mono C.pass F hr (C.v7 gQ.2) hm hk pa d1 eU gj
    ·rcases orElse_some h with h|h
     ·obtain⟨f,hf,rfl⟩:=ae.mp h;obtain⟨k,C',fa,fd,ps,F,hr,hm,hC,iq,M⟩:=C.cls x f hf;exact OF C.mono C.pass F M hC iq hr (C.v7 gQ.2) hm pa d1 eU gj
     ·split at h
      ·rename_i hb;obtain⟨p,hp,rfl⟩:=ae.mp h;obtain⟨v,hv,ze,hc⟩:=a52 (X:=X) C.calm hp;exact Mb C.mono hv hc (C.v7 gQ.2) (C.blt x hb) ze pa d3 d1 eU gj
      ·cases h
  ·cases h
omit S in
theorem Ip{m:Str}:Az X P Ξ.1 m (c.meths m):=λy f C' h hC=>by
 have hm:=aK h;unfold f7.meths at hm;obtain⟨⟨m',y',f'⟩,h1,h2⟩:=au.mp hm;obtain⟨h3,h4⟩:=bE.mp h1;cases h2;have:m'=m:=by simpa using h4
 subst this;exact C.mQ m' y f C' h3 hC
theorem NM{mt:Str}{apos:Pos}(h:Cw r c o mt apos pos args=some m):PE X (.Call (.Attribute o mt apos) args [] pos) (LE X.K Ξ (aS P m)):=by
 unfold Cw at h;split at h
 ·rename_i hc;simp only[Bool.and_eq_true,decide_eq_true_eq] at hc;obtain⟨⟨hb,hl⟩,hn⟩:=hc;obtain⟨mo,ho,h⟩:=ag.mp h;obtain⟨ms,nM,h⟩:=ag.mp h;have ok:=AU nM;have pa:=rh S C nM;have po:=S.e X c Ξ C _ _ ho;have hf:methodCallForm args.length (backTo pos (starEach args X.env)) (backToKw pos (keywordEach [] X.env))=true:=by
   unfold methodCallForm;rw[IC ok];have:args.length+0<30:=by omega
   show(true&&true&&decide (args.length+0<30))=true;rw[aL this]
   rfl
  by_cases tT:mt="index"
  ·subst tT;rw[aG rfl] at h;cases args with
   |nil=>cases h
   |cons e es =>
    cases h;exact Zz C.mono po pa (G9 hb) hf hl (l4 (env:=X.env) (es:=es) (ok e (by simp))) (P2 (pos:=pos) (env:=X.env) (es:=es) λz hz=>ok z (by simp[hz]))
  rw[az tT] at h;by_cases wb:(decide (mt="pop")&&Fb o&&!args.isEmpty)=true
  ·rw[aG wb] at h;obtain rfl:=aF h;clear h;simp only[Bool.and_eq_true,decide_eq_true_eq] at wb;obtain⟨⟨rfl,_⟩,fk⟩:=wb;cases args with
   |nil=>cases fk
   |cons e es =>
    exact HY C.mono qW vN PySem.F.type_dict_pop Nm (λR r h=>ty_dict R r h) po pa (G9 hb) hf hl (l4 (env:=X.env) (es:=es) (ok e (by simp))) (P2 (pos:=pos) (env:=X.env) (es:=es) λz hz=>ok z (by simp[hz]))
  rw[az wb] at h;cases args with
  |nil =>
   cases nM;by_cases h0:(vi.lookup mt).isSome=true
   ·rw[aG (by rw[h0];rfl)] at h;obtain⟨p,hp,rfl⟩:=ae.mp h;obtain⟨T,id,yp,sl,ty,yv,hk⟩:=XM (X:=X) hp;exact ZE C.mono yp sl ty yv hk po (G9 hb) hl
   rw[az (by rw[ba];exact λz=>h0 z.2)] at h;split at h
   ·cases h
   ·cases h;exact Xd C.mono C.pass (Ip C) po (Gg hb hl hf)
  |cons e es =>
   have eU:=l4 (env:=X.env) (es:=es) (ok e (by simp));have gj:=P2 (pos:=pos) (env:=X.env) (es:=es) λz hz=>ok z (by simp[hz]);rw[az (by simp)] at h;split at h
   ·rename_i p hp;cases h;obtain⟨T,id,yp,sl,ty,yv,hk⟩:=a18 (X:=X) C.units hp;exact HY C.mono yp sl ty yv hk po pa (G9 hb) hf hl eU gj
   ·cases h;exact ZF C.mono C.pass (Ip C) po pa eU gj (Gg hb hl hf)
 ·cases h
theorem Dz{tg:Expr}(h:uO r c tg e=some m):PI X tg e (LI X.K Ξ (gH P m)):=by
 unfold uO at h;rcases orElse_some h with h|h
 ·obtain⟨q,hq,h'⟩:=ag.mp h;rename_i h0;clear h h0;have h:=h';clear h';obtain⟨p,pos',rfl⟩:=Z7 hq;obtain⟨y,as⟩:=q;dsimp only at h ⊢;split at h
  ·rename_i hy;subst hy;rcases as with _|⟨a,_|⟨_,_⟩⟩
   ·cases h
   ·dsimp only at h;split at h
    ·rename_i hc;simp only[Bool.and_eq_true] at hc;obtain⟨⟨⟨hg,hb⟩,ho⟩,ht⟩:=hc;obtain⟨ma,ha,rfl⟩:=ae.mp h;obtain⟨es,k,tp,rfl⟩:=a53 ht;exact ON C.mono (S.e X c Ξ C _ _ ha) (C.v7 hg) (C.blt _ hb) (l4 ho)
    ·cases h
   ·cases h
  ·split at h
   ·rename_i hy;subst hy;rcases as with _|⟨a,_|⟨_,_⟩⟩
    ·cases h
    ·dsimp only at h;split at h
     ·rename_i hc;simp only[Bool.and_eq_true] at hc;obtain⟨⟨hg,hb⟩,ho⟩:=hc;obtain⟨ma,ha,rfl⟩:=ae.mp h;exact Mm C.mono (S.e X c Ξ C _ _ ha) (C.v7 hg) (C.blt _ hb) (l4 ho)
     ·cases h
    ·cases h
   split at h
   ·rename_i hy;subst hy;rcases as with _|⟨a,_|⟨b,_|⟨_,_⟩⟩⟩
    ·cases h
    ·dsimp only at h;split at h
     ·rename_i hc;simp only[Bool.and_eq_true] at hc;obtain⟨⟨hg,hb⟩,ho⟩:=hc;obtain⟨ma,ha,rfl⟩:=ae.mp h;exact OO C.mono (S.e X c Ξ C _ _ ha) (C.v7 hg) (C.blt _ hb) (l4 ho)
     ·cases h
    ·dsimp only at h;split at h
     ·rename_i hc;simp only[Bool.and_eq_true] at hc;obtain⟨⟨⟨hg,hb⟩,ho⟩,kn⟩:=hc;obtain⟨ma,ha,h⟩:=ag.mp h;obtain⟨mb,jd,rfl⟩:=ae.mp h;exact OP C.mono (S.e X c Ξ C _ _ ha) (S.e X c Ξ C _ _ jd) (C.v7 hg) (C.blt _ hb) (by rw[l4 ho,l4 kn];rfl) (l4 kn)
     ·cases h
    ·cases h
   ·cases h
 ·split at h
  ·obtain⟨ma,ha,rfl⟩:=ae.mp h;exact Mn C.mono (S.e X c Ξ C _ _ ha)
  ·cases h
omit S in
theorem xw(h:c.pe e i=true):∃x p,e=.Name x p/\PE X e (ph i):=by
 unfold f7.pe at h;cases e<;>first|(cases h;done)|skip
 rename_i x p;have h:(V2 x&&c.pE x&&decide (c.idx x=some i))=true:=h;simp only[Bool.and_eq_true,decide_eq_true_eq] at h;obtain⟨⟨h1,h2⟩,h3⟩:=h;obtain⟨d1,d2,_⟩:=G0 h1;exact⟨x,p,rfl,IY (C.pb h3) (C.Fn h2) d1 d2⟩
omit S in
theorem Rc{ifs:List Expr}(h:CZ c ifs=true):jD X ifs (uV (oB (ym X.K true) (ph 0) (ph 3))):=by
 rcases ifs with _|⟨e,_|⟨_,_⟩⟩
 ·cases h
 ·cases e<;>first|(cases h;done)|skip
  rename_i a ops bs p;have h:(decide (ops=[.NotIn])&&c.pe a 0&&Dc c bs)=true:=h;simp only[Bool.and_eq_true,decide_eq_true_eq] at h;obtain⟨⟨rfl,h1⟩,h2⟩:=h;rcases bs with _|⟨b,_|⟨_,_⟩⟩<;>first|(cases h2;done)|skip
  have h2:c.pe b 3=true:=h2;obtain⟨_,_,rfl,p1⟩:=xw C h1;obtain⟨_,_,rfl,p2⟩:=xw C h2;exact HR (AO Zd p1 p2 rfl)
 ·cases h
theorem Rb{kx vx:Expr}{gens:List Comprehension}(h:yd r c kx vx gens sc=some m):PE X (.DictComp kx vx gens sc pos) (LE X.K Ξ (aS P m)):=by
 unfold yd at h;rcases gens with _|⟨⟨tg,it,ifs,tB⟩,_|⟨_,_⟩⟩
 ·cases h
 ·dsimp only at h;split at h
  ·rename_i hs;simp only[Bool.and_eq_true,decide_eq_true_eq] at hs;obtain⟨⟨⟨⟨⟨hs,rfl⟩,h3⟩,hk⟩,hv⟩,ht⟩:=hs;obtain⟨q,hq,h⟩:=ag.mp h;obtain⟨w,hw,h⟩:=ag.mp h;split at h
   ·rename_i hx;simp only[Bool.and_eq_true,decide_eq_true_eq] at hx;obtain⟨⟨⟨⟨x1,x2⟩,x3⟩,x4⟩,x5⟩:=hx;obtain⟨es,he,h⟩:=ag.mp h;split at h
    ·rename_i pU;have pU:=aN pU;split at h
     ·rename_i j hj;obtain⟨mo,DO,rfl⟩:=ae.mp h;obtain⟨cl,Sc,I⟩:=C.comp hs;rw[hj] at Sc;cases it with
      |Call f as ks ip =>
       cases hq;have hw:EG f=some w:=hw;cases f with
       |Attribute o mm ap =>
        cases hw;cases tg with
        |Tuple wx kk tp =>
         cases he;obtain rfl:=gX.mp x1;obtain rfl:=gX.mp x2;dsimp only at x3 x4 x5 DO;subst x3;exact OA C.mono Sc h3 C.calm (S.e X c Ξ C _ _ DO) (G9 x4) x5 (λpins A s H fp=>Hc (I pins A s H fp).calm (Gi (I pins A s H fp).oI ((I pins A s H fp).slots pU)) (R7 ((I pins A s H fp).slots pU)).1 (R7 ((I pins A s H fp).slots pU)).2) (λpins A s H fp=>Rc (I pins A s H fp) ht)
          (λpins A s H fp=>let ⟨_,_,_,z⟩:=xw (I pins A s H fp) hk;z) (λpins A s H fp=>let ⟨_,_,_,z⟩:=xw (I pins A s H fp) hv;z)
        |_=>cases he
       |_=>cases hw
      |_=>cases hq
     ·cases h
    ·cases h
   ·cases h
  ·cases h
 ·cases h
theorem AL{elt:Expr}{gens:List Comprehension}(h:qR r c elt gens sc=some m):∃tg it ifs t mi mc me cl,gens=[⟨tg,it,ifs,0⟩]/\m=.comp (c.d6 sc) (frees sc++locals sc).length t mi mc me/\fK it=true /\
  cI X sc (frees sc++locals sc) (c.d6 sc) cl/\PI X tg it (LI X.K Ξ (gH P mi))/\(∀pins A s H fp,PG (b9 X pins sc (frees sc++locals sc) cl A s H fp) tg (LG X.K t)) /\
   (∀pins A s H fp,jD (b9 X pins sc (frees sc++locals sc) cl A s H fp) ifs (LT X.K (nh Ξ.1) (dw P mc)))/\(∀pins A s H fp,PE (b9 X pins sc (frees sc++locals sc) cl A s H fp) elt (LE X.K (nh Ξ.1) (aS P me))):=by
 unfold qR at h;rcases gens with _|⟨⟨tg,it,ifs,tB⟩,_|⟨_,_⟩⟩
 ·cases h
 ·dsimp only at h;split at h
  ·rename_i hs;simp only[Bool.and_eq_true,decide_eq_true_eq] at hs;obtain⟨⟨hs,rfl⟩,hit⟩:=hs;obtain⟨t,h1,h⟩:=ag.mp h;obtain⟨mi,h2,h⟩:=ag.mp h;obtain⟨mc,h3,h⟩:=ag.mp h;obtain⟨me,h4,rfl⟩:=ae.mp h;obtain⟨cl,Sc,I⟩:=C.comp hs;exact⟨tg,it,ifs,t,mi,mc,me,cl,rfl,rfl,hit,Sc,Dz S C h2,λpins A s H fp=>(I pins A s H fp).Ez h1,λpins A s H fp=>Ri S (I pins A s H fp) h3,λpins A s H fp=>S.e _ _ _ (I pins A s H fp) elt me h4⟩
  ·cases h
 ·cases h
omit S in
theorem Rf{f:Expr}{iV:List Keyword}(h:vQ c f args iV=some m):PE X (.Call f args iV pos) (LE X.K Ξ (aS P m)):=by
 unfold vQ at h;cases h
theorem Ka:∀e m,Fg r c e=some m->PE X e (LE X.K Ξ (aS P m)):=by
 intro e m h;cases e with
 |Name x p=>exact Vp C h
 |Constant k j p =>
  obtain⟨d,hd,rfl⟩:=ae.mp (show(qI k).map ME.lit=some m from h);exact yu hd
 |BinOp a op b p =>
  obtain⟨ma,mb,ha,hb,rfl⟩:=sk S C h;exact Cn C.mono (TM (Vt op) ha hb)
 |UnaryOp op a p=>exact Rj S C h
 |Compare a ops bs p=>exact(EY S C h).1
 |BoolOp op vs p=>exact Kc S C h
 |IfExp t a b p =>
  obtain⟨mt,ht,h⟩:=ag.mp h;obtain⟨ma,ha,h⟩:=ag.mp h;obtain⟨mb,hb,rfl⟩:=ae.mp h;exact Mf C.mono (S.t X c Ξ C _ _ ht) (S.e X c Ξ C _ _ ha) (S.e X c Ξ C _ _ hb)
 |Tuple es k p =>
  obtain⟨ma,ha,rfl⟩:=ae.mp h;exact Mh C.mono (rh S C ha)
 |List es p =>
  obtain⟨ma,ha,rfl⟩:=ae.mp h;exact Hg C.mono (rh S C ha)
 |Subscript a b p=>exact Tt S C h
 |Dict ks vs p =>
  have h2:(if ks.isEmpty&&vs.isEmpty then some (ME.prim .T3 .nil) else if decide (ks.length<=15) then(uM r c ks vs).map .ng else none)=some m:=h;split at h2
  ·rename_i hc;cases ks<;>cases vs<;>first|(cases hc;done)|skip
   cases h2;exact OB
  ·rename_i hc;split at h2
   ·rename_i hl;obtain⟨ms,hm,rfl⟩:=ae.mp h2;obtain⟨hX,D⟩:=Kb S C hm;refine Mc C.mono D (λz=>hc ?_) (aN hl);have:=D.len.2;subst z;cases vs<;>first|rfl|cases this
   ·cases h2
 |JoinedStr vs p =>
  have h2:(if decide (2<=vs.length)&&decide (vs.length<=40) then(rX r c vs).map (ME.prim .mG) else none)=some m:=h;split at h2
  ·rename_i hc;simp only[Bool.and_eq_true,decide_eq_true_eq] at hc;obtain⟨ms,hm,rfl⟩:=ae.mp h2;obtain⟨ts,F⟩:=J' S C hm;rcases vs with _|⟨v1,_|⟨v2,vs⟩⟩
   ·simp at hc
   ·simp at hc
   ·exact OC C.mono F hc.2
  ·cases h2
 |Attribute o f p =>
  have h2:(if su o then c1 r c (.fld f) o else none)=some m:=h;split at h2
  ·rename_i hb;obtain⟨ma,ha,rfl⟩:=sj S C h2;exact Md C.mono ha (G9 hb)
  ·cases h2
 |Call f args iV pos =>
  have h1:((yc r c f args iV).orElse λ_=>(vQ c f args iV).orElse λ_=>Ca r c f args iV pos)=some m:=h;rcases orElse_some h1 with h2|h2
  ·unfold yc at h2;rcases args with _|⟨a,_|⟨_,_⟩⟩
   ·cases h2
   ·dsimp only at h2;split at h2
    ·rename_i hk;simp only[Bool.and_eq_true,decide_eq_true_eq] at hk;obtain⟨⟨⟨hk,hf⟩,mw⟩,hb⟩:=hk;cases iV<;>first|(cases hk;done)|skip
     obtain⟨q,hq,h3⟩:=ag.mp h2;obtain⟨m1,h4,h5⟩:=ag.mp h3;cases f<;>first|(cases hf;done)|skip
     cases a<;>first|(cases hq;done)|skip
     cases hf;cases hq;obtain⟨tg,it,ifs,t,mi,mc,me,cl,eg,rfl,hit,Sc,q1,q2,q3,q4⟩:=AL S C h4;dsimp only at eg;subst eg;cases h5;exact ZG C.mono Sc C.calm q1 q2 q3 q4 (xl hit) (C.v7 mw) (C.blt _ hb)
    ·cases h2
   ·cases h2
  clear h h1;rcases orElse_some h2 with h3|h3
  ·exact Rf C h3
  clear h2;unfold Ca at h3;split at h3
  ·rename_i hk;cases iV<;>first|(cases hk;done)|skip
   cases f with
   |Name x p=>exact NN S C h3
   |Attribute o a p=>exact NM S C h3
   |_=>cases h3
  ·cases h3
 |Set es k p =>
  have h2:CD c es k=some m:=h;unfold CD at h2;split at h2
  ·rename_i hc;rw[ba] at hc;obtain rfl:=aN hc.2;split at h2
   ·cases h2;exact OG C.mono (C.code hc.1)
   ·cases h2
  ·cases h2
 |ListComp elt gens sc p =>
  obtain⟨tg,it,ifs,t,mi,mc,me,cl,rfl,rfl,hit,Sc,q1,q2,q3,q4⟩:=AL S C h;exact(HN Sc C.calm q1 q2 q3 q4 (xl hit)).imp λZ H Q h=>Ii C.mono Z H Q h
 |_=>cases h
theorem JY:∀e m,stepT r c e=some m->PT X e (LT X.K Ξ (dw P m)):=by
 intro e m h;have plain:∀{e:Expr} {m:ME},(if Br e then(r.e c e).map ME.dU else none)=some m->PT X e (LT X.K Ξ (dw P m)):=λ{e m} h=>by
  split at h
  ·rename_i hp;obtain⟨ma,ha,rfl⟩:=ae.mp h;exact Mx C.mono (S.e X c Ξ C _ _ ha) (WX hp)
  ·cases h
 cases e with
 |UnaryOp op a p =>
  have h2:(if op=.Not then(r.t c a).map ME.cV else none)=some m:=h;split at h2
  ·rename_i ho;subst ho;obtain⟨ma,ha,rfl⟩:=ae.mp h2;exact Mv C.mono (S.t X c Ξ C _ _ ha)
  ·cases h2
 |BoolOp op vs p=>exact(JX S C h).pt
 |Compare a ops bs p =>
  obtain⟨ma,ha,rfl⟩:=ae.mp (show(vw r c a ops bs).map ME.dU=some m from h);exact(EY S C ha).2
 |_=>exact plain h
end
section
theorem Ih(h:EN e=some m):PE X e (LE X.K Ξ (aS P m))/\fK e=true:=by
 cases e<;>first|(cases h;done)|skip
 obtain⟨d,hd,rfl⟩:=ae.mp (show(qI _).map ME.lit=some m from h);exact⟨yu hd,rfl⟩
theorem a46(hP:j5 P):∀{es:List Expr} {m:ME},wD es=some m->PA X es (LA X.K Ξ (fe P m)):=by
 intro es
 induction es with
 |nil=>intro m h;cases h;exact M1 hP
 |cons e es ih =>
  intro m h;unfold wD at h;obtain⟨m1,h1,h⟩:=ag.mp h;obtain⟨m2,h2,rfl⟩:=ae.mp h;exact B5 hP (Ih h1).1 (ih h2) (l4 (Ih (X:=X) (Ξ:=Ξ) (P:=P) h1).2)
theorem PD(hP:j5 P)(h:EM e=some m):PE X e (LE X.K Ξ (aS P m)):=by
 cases e<;>first|(cases h;done)|skip
 ·obtain⟨d,hd,rfl⟩:=ae.mp (show(qI _).map ME.lit=some m from h);exact yu hd
 ·obtain⟨ms,hm,rfl⟩:=ae.mp h;exact Hg hP (a46 hP hm)
theorem Xp{h:ExceptHandler}{q:Str×Expr}(hq:Cc h=some q):∃p p1 p2,h=.ExceptHandler (some (.Name q.1 p)) none [.Return (some q.2) p1] p2:=by
 obtain⟨t,n,b,p0⟩:=h;unfold Cc at hq;cases n with
 |some _=>cases hq
 |none =>
  obtain⟨t,rfl,hq⟩:=ag.mp (show t.bind _=some q from hq);obtain⟨y,hy,hq⟩:=ag.mp hq;obtain⟨e,he,rfl⟩:=ae.mp hq;obtain⟨p,rfl⟩:=Bt hy;rcases b with _|⟨s,_|⟨_,_⟩⟩
  ·cases he
  ·cases s<;>first|(cases he;done)|(cases he;exact⟨_,_,_,rfl⟩)
  ·cases he
theorem Pz(C:gO X c P Ξ)(yY:uW X Ξ.2):∀{hs:List ExceptHandler} {ms:List (Str×ME)},uN c hs=some ms->lC X Ξ P hs ms:=by
 intro hs
 induction hs with
 |nil=>intro ms h;cases h;exact .nil yY
 |cons hd hs ih =>
  intro ms h;unfold uN at h;obtain⟨q,hq,h'⟩:=ag.mp h;clear h;have h:=h';clear h';obtain⟨p,p1,p2,rfl⟩:=Xp hq;obtain⟨y,e⟩:=q;dsimp only at h ⊢;split at h
  ·rename_i hc;simp only[Bool.and_eq_true] at hc;obtain⟨m,h1,h⟩:=ag.mp h;obtain⟨ms',h2,rfl⟩:=ae.mp h;obtain⟨C',hm,hi,_⟩:=C.exc y hc.1.1;refine .cons (C.v7 hc.1.2) (G0 hc.2).1 hm (λx C1 hx h1=>C.Aa x y C1 C' ?_ hc.1.1 h1 hi) (λea=>PD (X:=F6 X ea) C.mono h1) (ih h2);rw[C.wu] at hx;simpa using hx
  ·cases h
theorem Yi{e f:Option Expr}{q:Str×Expr×List Expr}(h:AD e f=some q):f=none/\∃p p',e=some (.Call (.Name q.1 p) (q.2.1::q.2.2) [] p'):=by
 unfold AD at h;cases f with
 |some _=>cases h
 |none =>
  obtain⟨t,rfl,h⟩:=ag.mp (show e.bind _=some q from h);obtain⟨z,hz,h⟩:=ag.mp h;obtain⟨p,p',rfl⟩:=Z7 hz;obtain⟨x,as⟩:=z;cases as with
  |nil=>cases h
  |cons a as=>cases h;exact⟨rfl,_,_,rfl⟩
theorem a07(h:c.xP es e=true):∃x px y py a b k p,es=[.Name x px,.Name y py]/\e=.Tuple [a,b] k p/\c.Ay x px y py a b=true:=by
 rcases es with _|⟨s,_|⟨t,_|⟨_,_⟩⟩⟩
 ·cases h
 ·cases h
 ·cases s<;>first|(cases h;done)|skip
  cases t<;>first|(cases h;done)|skip
  cases e<;>first|(cases h;done)|skip
  rename_i l _ _;rcases l with _|⟨a,_|⟨b,_|⟨_,_⟩⟩⟩
  ·cases h
  ·cases h
  ·exact⟨_,_,_,_,_,_,_,_,rfl,rfl,h⟩
  ·cases h
 ·cases h
theorem HA(C:gO X c P Ξ){f:Str}:wB X.K f (c.vp f):=λy C' h hC=>by
 unfold f7.vp at h;obtain⟨⟨f',y'⟩,h1,h2⟩:=au.mp h;obtain⟨h3,h4⟩:=bE.mp h1;cases h2;have:f'=f:=by simpa using h4
 subst this;exact C.mY f' y' C' h3 hC
variable(S:pq P r)(C:gO X c P Ξ)
include S C
theorem Ts{tg:Expr}{m:MS}(hS:∀e m,r.e c e=some m->A5 e=false->∃elt gens sc p,e=.ListComp elt gens sc p/\∃r',pq P r'/\qR r' c elt gens sc=some m)(hT:∀a b k p m,r.e c (.Tuple [a,b] k p)=some m->∃r' ms,pq P r'/\L3 r' c [a,b]=some ms/\m=.prim .tup ms)(h:Et r c tg e=some m):PS X (.Assign [tg] e pos) (LS X.K Ξ (wpS P m)):=by
 cases tg with
 |Name x px =>
  have h2:(if c.z7 x then(c.idx x).bind λi=>(r.e c e).map λm=>MS.set i m else none)=some m:=h;split at h2
  ·rename_i hl;obtain⟨i,hi,h2⟩:=ag.mp h2;obtain⟨me,he,rfl⟩:=ae.mp h2;cases hn:A5 e with
   |true=>exact Hj C.mono (He C.oI (C.pb hi) (C.z7 hl).1 (S.e X c Ξ C _ _ he) (Bq hn) (C.z7 hl).2)
   |false =>
    obtain⟨elt,gens,sc,p,rfl,r',S',hx⟩:=hS e me he hn;obtain⟨tg,it,ifs,t,mi,mc,me,cl,rfl,rfl,hit,Sc,q1,q2,q3,q4⟩:=AL S' C hx;refine Hj C.mono ?_;exact(YH Sc C.calm q1 q2 q3 q4 (xl hit) C.oI (C.pb hi) (C.z7 hl).1 (C.z7 hl).2).imp λN Z H h=>Ii C.mono Z H _ h
  ·cases h2
 |Tuple es k pt =>
  have h0:((Cd es).elim (if(sf e&&A5 e)||c.xP es e then(c.slots es).bind λis=>(r.e c e).map λm=>MS.lF (.many is) m else none) λq=>if A5 e&&fK q.2.1&&fK q.2.2.2 then(r.e c q.1).bind λm1=>(r.e c q.2.1).bind λn1=>(r.e c q.2.2.1).bind λm2=>(r.e c q.2.2.2).bind λn2=>(r.e c e).map λm=>MS.vT m1 n1 m2 n2 m else none)=some m:=h;cases hq:Cd es with
  |some q =>
   rw[hq] at h0;dsimp only[Option.elim] at h0;split at h0
   ·cases hq
   ·cases h0
  |none =>
  rw[hq] at h0;have h2:(if(sf e&&A5 e)||c.xP es e then(c.slots es).bind λis=>(r.e c e).map λm=>MS.lF (.many is) m else none)=some m:=h0;split at h2
  ·rename_i hn;rw[eJ,ba] at hn;obtain⟨is,hs,h2⟩:=ag.mp h2;obtain⟨me,he,rfl⟩:=ae.mp h2;rcases hn with hn|hn
   ·exact MD C.mono (Hd (S.e X c Ξ C _ _ he) (Ia C.calm C.oI (C.slots hs)) (GQ hn.2) (Qn hn.1))
   ·obtain⟨x,px,y,py,a,b,k2,oH,rfl,rfl,hk⟩:=a07 hn
    ·unfold f7.Ay at hk;simp only[Bool.and_eq_true,decide_eq_true_eq,Bool.not_eq_true'] at hk;obtain⟨⟨⟨⟨⟨⟨⟨l1,l2⟩,fk⟩,hl⟩,oa⟩,ob⟩,f1⟩,f2⟩:=hk;obtain⟨r',ms,S',nM,rfl⟩:=hT _ _ _ _ _ he;have so:=C.slots hs;cases so with
     |cons hi _ _ so =>
     cases so with
     |cons hj _ _ so =>
     cases so;exact MB C.mono C.calm C.oI hi hj fk hl (C.loc x l1) (C.loc y l2) oa ob f1 f2 (rh S' C nM)
  ·cases h2
 |Subscript o i pt =>
  have h2:(if fK i&&A5 e then(r.e c o).bind λmo=>(r.e c i).bind λmi=>(r.e c e).map λm=>MS.cN mo mi m else none)=some m:=h;split at h2
  ·rename_i hn;rw[ba] at hn;obtain⟨mo,ho,h2⟩:=ag.mp h2;obtain⟨mi,hi,h2⟩:=ag.mp h2;obtain⟨me,he,rfl⟩:=ae.mp h2;exact ZS C.mono C.units (S.e X c Ξ C _ _ he) (S.e X c Ξ C _ _ ho) (S.e X c Ξ C _ _ hi) (GQ hn.2) (NQ hn.1)
  ·cases h2
 |Attribute o f pt =>
  obtain⟨mo,ho,h⟩:=ag.mp h;obtain⟨me,he,rfl⟩:=ae.mp h;exact OZ C.mono (HA C) (S.e X c Ξ C _ _ ho) (by cases e<;>first|exact Rb S C he|exact S.e X c Ξ C _ _ he) (by cases e<;>rfl)
 |_=>cases h
theorem JZ(hS:∀e m,r.e c e=some m->A5 e=false->∃elt gens sc p,e=.ListComp elt gens sc p/\∃r',pq P r'/\qR r' c elt gens sc=some m)(hT:∀a b k p m,r.e c (.Tuple [a,b] k p)=some m->∃r' ms,pq P r'/\L3 r' c [a,b]=some ms/\m=.prim .tup ms) :
  ∀st m,Fh r c st=some m->PS X st (LS X.K Ξ (wpS P m)):=by
 intro st m h;have hP:=C.mono;cases st with
 |AugAssign tg op e p =>
  cases tg with
  |Attribute o f tp =>
   have h2:(if decide (op=Operator.Add) then(r.e c o).bind λmo=>(r.e c e).map λm=>MS.jU f (c.vp f) mo m else none)=some m:=h;split at h2
   ·rename_i ho;obtain rfl:=aN ho;obtain⟨mo,ho,h2⟩:=ag.mp h2;obtain⟨me,he,rfl⟩:=ae.mp h2;exact OW C.mono (HA C) (S.e X c Ξ C _ _ ho) (S.e X c Ξ C _ _ he)
   ·cases h2
  |Name x tp =>
   have h2:(if c.z7 x then(EJ op).bind λp=>(c.idx x).bind λi=>(r.e c e).map λm=>MS.jy i p m else none)=some m:=h;split at h2
   ·rename_i hl;obtain⟨p,hp,h2⟩:=ag.mp h2;obtain⟨i,hi,h2⟩:=ag.mp h2;obtain⟨me,he,rfl⟩:=ae.mp h2;refine OX C.mono ?_ C.oI (C.pb hi) (C.z7 hl).1 (C.z7 hl).2 (S.e X c Ξ C _ _ he);cases op<;>first|(cases hp;done)|skip
    ·cases hp;exact .inl ⟨rfl,rfl⟩
    ·cases hp;exact .inr ⟨rfl,rfl⟩
   ·cases h2
  |_=>cases h
 |Expr e p =>
  have h2:(if A5 e then(r.e c e).map MS.expr else none)=some m:=h;split at h2
  ·rename_i hn;obtain⟨me,he,rfl⟩:=ae.mp h2;exact OY hP (S.e X c Ξ C _ _ he) (Bq hn)
  ·cases h2
 |Assign yh e p =>
  rcases yh with _|⟨tg,_|⟨_,_⟩⟩
  ·cases h
  ·exact Ts S C hS hT h
  ·cases h
 |If t a b p =>
  obtain⟨mt,ht,h⟩:=ag.mp h;obtain⟨ma,ha,h⟩:=ag.mp h;obtain⟨mb,hb,rfl⟩:=ae.mp h;exact Ul hP (S.t X c Ξ C _ _ ht) (rR S C ha) (rR S C hb)
 |For tg it body nS p =>
  have h2:(if c.lJ&&(nS.isEmpty&&fK it) then(c.tg tg).bind λt=>(uO r c tg it).bind λmi=>(u3 r c body).map λmb=>MS.eM t mi mb else none)=some m:=h;split at h2
  ·rename_i hc;rw[ba,ba] at hc;cases nS<;>first|(cases hc.2.1;done)|skip
   obtain⟨t,h1,h2⟩:=ag.mp h2;obtain⟨mi,h3,h2⟩:=ag.mp h2;obtain⟨mb,h4,rfl⟩:=ae.mp h2;exact MA hP (C.own hc.1) C.calm (Dz S C h3) (C.Ez h1) (rR S C h4) (xl hc.2.2)
  ·cases h2
 |While t body nS p =>
  have h2:(if c.lJ&&nS.isEmpty then(r.t c t).bind λmt=>(u3 r c body).map λmb=>MS.iT mt mb else none)=some m:=h;split at h2
  ·rename_i hc;rw[ba] at hc;cases nS<;>first|(cases hc.2;done)|skip
   obtain⟨mt,h1,h2⟩:=ag.mp h2;obtain⟨mb,h4,rfl⟩:=ae.mp h2;exact ZT hP (C.own hc.1) (S.t X c Ξ C _ _ h1) (rR S C h4)
  ·cases h2
 |Return e p =>
  cases e with
  |none=>cases h;exact(Oo (X:=X)).imp λN bN H ⟨Z,g,ρ,s,R,h⟩=>LQ.now h R .bf
  |some e =>
   obtain⟨me,he,rfl⟩:=ae.mp (show(r.e c e).map (λm=>MS.ret (toR c e m))=some m from h);refine Hi hP ?_;exact S.e X c Ξ C _ _ he
 |Raise e f p =>
  obtain⟨q,hq,h2⟩:=ag.mp h;clear h;obtain⟨rfl,px,p2,rfl⟩:=Yi hq;obtain⟨x,e,es⟩:=q;dsimp only at h2 ⊢;split at h2
  ·rename_i hc;simp only[Bool.and_eq_true] at hc;obtain⟨ma,ha,rfl⟩:=ae.mp h2;have ok:=AU ha;obtain⟨C',hm,hi,B,nI,iI,bm,O,FB⟩:=C.exc x hc.1.1.2;exact ZR hP C.calm O FB (C.v7 hc.1.2) (rh S C ha) (C.jm hc.1.1.1) (by rw[C.wu];simpa using hc.1.1.2) hi (l4 (ok e (by simp))) (P2 λz hz=>ok z (by simp[hz])) (G0 hc.2).1
  ·cases h2
 |Try body hs el fi p =>
  have h2:(if c.iU&&!hs.isEmpty&&el.isEmpty&&fi.isEmpty then(u3 r { c with jm:=false,iU:=false } body).bind λmb=>(uN c hs).map λms=>MS.oj mb ms else none)=some m:=h;split at h2
  ·rename_i hc;simp only[Bool.and_eq_true] at hc;obtain⟨⟨⟨ht,hh⟩,he⟩,hf⟩:=hc;cases el<;>first|(cases he;done)|skip
   cases fi<;>first|(cases hf;done)|skip
   cases hs<;>first|(cases hh;done)|skip
   obtain⟨mb,h1,h2⟩:=ag.mp h2;obtain⟨ms,h3,rfl⟩:=ae.mp h2;obtain⟨eU,hf,yY⟩:=C.iU ht;exact MC hP eU hf (λpins D=>rR S (C.oj eU hf pins D _) h1) (Pz C yY h3)
  ·cases h2
 |Pass p=>cases h;exact(Om (X:=X)).imp λN bN H ⟨Z,g,ρ,s,R,h⟩=>h ρ H bN (.refl _ _) R s
 |_=>cases h
end
theorem Ym(h:(comp (n+1)).e c e=some m)(hn:A5 e=false):∃elt gens sc p,e=.ListComp elt gens sc p/\qR (comp n) c elt gens sc=some m:=by
 cases e<;>first|(cases hn;done)|(cases h;done)|exact⟨_,_,_,_,rfl,h⟩
theorem snd:∀n,(∀k,k<=n->pq P (comp k)):=by
 intro n
 induction n with
 |zero =>
  intro k hk;obtain rfl:=Nat.le_zero.mp hk;exact⟨λ_ _ _ _ _ _ h=>(by cases h),λ_ _ _ _ _ _ h=>(by cases h),λ_ _ _ _ _ _ h=>(by cases h)⟩
 |succ n ih =>
  intro k hk;rcases Nat.lt_or_ge k (n+1) with dC|hge
  ·exact ih k (by omega)
  obtain rfl:k=n+1:=by omega
  have I:=ih n (aj n);refine⟨λX c Ξ C e m h=>Ka I C e m h,λX c Ξ C e m h=>JY I C e m h,λX c Ξ C st m h=>?_⟩;rcases orElse_some h with h|h
  rotate_left
  ·cases h;exact λpins s Z H D I q=>by obtain⟨_,_,_,_,_,z⟩:=q;exact(show False from z).elim
  refine JZ I C (λe m he hn=>?_) (λa b k p m he=>?_) st m h
  ·cases n with
   |zero=>cases he
   |succ n =>
    obtain⟨elt,gens,sc,p,rfl,hx⟩:=Ym he hn;exact⟨_,_,_,_,rfl,comp n,ih n (by omega),hx⟩
  ·cases n with
   |zero=>cases he
   |succ n =>
    obtain⟨ms,hm,rfl⟩:=ae.mp (show(L3 (comp n) c [a,b]).map (ME.prim .tup)=some m from he);exact⟨comp n,ms,ih n (by omega),hm,rfl⟩
structure ot where
 nm:Str
 qn:Str
 N:List Str
 ps:List Str
 st:Stmt
def f7.at(c:f7)(d:ot):f7:={ c with N:=d.N,nm:=(n8 d.st).names,lJ:=true,jm:=true,iU:=true }
structure jf(K:PySem.W.Frag)(c:f7)(d:ot)(m:aM)(f:Addr)(fd:FuncData):Prop where
 fn:pz K d.nm d.qn d.st f fd
 bi:Binds K fd d.ps []
 sc:iC d.N d.ps (n8 d.st)
 co:u3 (comp 60) (c.at d) (o7 d.st)=some m.body
 ar:m.ar=d.ps.length
 nn:m.n=d.N.length
structure mK(w:World)(K:PySem.W.Frag)(mg:Str->Option Value)(c:f7)(T:Nat->Option aM):Prop where
 fns:∀x i,c.fns.lookup x=some i->∃d m f fd,T i=some m/\jf K c d m f fd/\mg x=some (.ref f)
 cls:∀x i,c.cls.lookup x=some i->∃C d m f fd,T i=some m/\jf K c d m f fd/\mg x=some (.ref C)/\p7 K x C/\iQ K C/\Mk K C f
 mQ:∀x y i C,(x,y,i)∈c.mQ->p7 K y C->∃d m f fd,T i=some m/\jf K c d m f fd/\Meth K C x f
 mY:∀f y C,(f,y)∈c.mY->p7 K y C->w9 K C f
 con:∀x d,c.con.lookup x=some d->∃v u,mg x=some u/\RelV v u/\∀ρ H,f6 K ρ H d v
 blt:∀x,c.blt.contains x=true->mg x=none
 Ab:∀x,c.exc.contains x=true->∃C,mg x=some (.ref C)/\p7 K x C/\∀base:Heap,K.In base->base.Ns mainGlobals mg->∃B newId gq bm,OwnCls x C bm newId mg base/\ExcBaseFacts B newId gq bm
 zZ:∀x y C C',c.exc.contains x=true->c.exc.contains y=true->p7 K x C->p7 K y C'->PySem.W.exmOne K (.ref C) (.ref C')=some (decide (x=y\/y="MintError"))
 qg:∀x kvs,c.gd.lookup x=some kvs->∃A vs,mg x=some (.ref A)/\uK K w.params A vs/\oZ K kvs vs
section
variable{Pg:Program}{w:World}{K:PySem.W.Frag}{mg:Str->Option Value}{base:Heap}{T:Nat->Option aM}
theorem Vc{q:Str}(h:PySem.W.codeIn K cd q=true):PySem.W.kdsCode K cd=true:=by
 unfold PySem.W.codeIn at h;unfold PySem.W.kdsCode;split at h
 ·dsimp only;split at h
  ·rename_i e;rw[e]
  ·cases h
 ·cases h
theorem NY:Passes (gN Pg w) (nX (gN Pg w) Pg w K mg base N qual scope f cd A outer s H E) E:=λpins Z H1 s1 e s' I h=>by
 obtain⟨C,H',J,fl,hE⟩:=I.flew h;exact YX J fl (λb o q=>I.base.there b o q (by intro z;cases z)) rfl rfl rfl hE
theorem Zw:wN (nX (gN Pg w) Pg w K mg base N qual scope f cd A outer s H E) E:=λpins Z H1 s1 h' ea C vs I hm hE =>
 Xz I hm rfl rfl rfl hE
theorem Nt:uW (nX (gN Pg w) Pg w K mg base N qual scope f cd A outer s H E) E:=λpins Z H1 H2 s1 s2 B ea C a0 I l hh hE =>
 leave_held I l hh rfl rfl rfl hE
theorem AF{k:Nat}{m:aM}(hT:T i=some m){ds:List D}{g:G}{Q:KD}{E:KX}(h:a8 T k i ds g Q E):ds.length=m.ar:=by
 cases k with
 |zero=>exact h.elim
 |succ k =>
  obtain⟨m',e,h,_⟩:=h;rw[hT] at e;cases e;exact h
theorem UI(mh:K.In base)(ur:base.Ns mainGlobals mg)(A:mK w K mg c T):∀(k i:Nat) d m f fd,T i=some m->jf K c d m f fd->gy Pg w K mg base (gN Pg w) (2*k) f fd d.ps (oG c.exc K d.ps.length (a8 T k i)):=by
 intro k
 induction k with
 |zero =>
  intro i d m f fd hm O;refine⟨λvs H Q E h=>h.1,λA outer s H args us vs Q E _ _ _ _ h=>?_⟩;obtain⟨_,_,_,_,_,_,q⟩:=h;exact q.elim
 |succ k ih =>
  intro i d m f fd hm O;obtain⟨oc,od,kV,doc,pm,an,fG,ct,lI,rfl,lk,lx⟩:=O.fn.ex;refine SQ (k:=2*k+1) lk lx O.sc (λvs H Q E h=>h.1) (λA0 outer s H vs Q E hr h=>?_);obtain⟨hl,xs,g,ρ,rs,R,q⟩:=h;have C:gO (nX (gN Pg w) Pg w K mg base d.N d.qn (n8 d.st) f fG A0 outer s H E) (c.at d) (a8 T k) (c.exc,E):=by
   refine⟨rfl,O.sc.nd,λx h=>h,λx h=>h,λx h=>.inr h,λx h=>h,λx h=>?_,λ_ _=>rfl,rfl,?_,(λ_=>PassesOwn.leaving),b0 T k,A.con,A.blt,λx j hj=>?_,λx j hj=>?_,λx y j C' hj hC=>?_,A.mY,rfl,NY,λ_=>Zw,λ_=>⟨rfl,rfl,Nt⟩,λx hx=>?_,A.zZ,A.qg,λ_=>Vc lx⟩
   ·rcases h with h|h
    ·exact AS h
    ·exact absurd rfl (O.sc.lU _ (aK h))
   ·have:=hr.un;show(A0.deeper _).units+100<cLine;omega
   ·obtain⟨d',m',f',oX,hT,O',hmg⟩:=A.fns x j hj;exact⟨2*k,f',oX,d'.ps,⟨ih j d' m' f' oX hT O',O'.bi,λEl g' Q' E' h'=>(AF hT h').trans O'.ar⟩,hr.mono (by omega),hmg,O'.fn.kp⟩
   ·obtain⟨C',d',m',f',oX,hT,O',hmg,hC,iq,M⟩:=A.cls x j hj;exact⟨2*k,C',f',oX,d'.ps,⟨ih j d' m' f' oX hT O',O'.bi,λEl g' Q' E' h'=>(AF hT h').trans O'.ar⟩,hr,hmg,hC,iq,M⟩
   ·obtain⟨d',m',f',oX,hT,O',M⟩:=A.mQ x y j C' hj hC;exact⟨2*k,f',oX,d'.ps,M,⟨ih j d' m' f' oX hT O',O'.bi,λEl g' Q' E' h'=>(AF hT h').trans O'.ar⟩,hr.mono (by omega)⟩
   ·obtain⟨C,h1,h2,h3⟩:=A.Ab x hx;exact⟨C,h1,h2,h3 base mh ur⟩
  refine⟨_,rR (snd (P:=a8 T k) 60 60 (aj _)) C O.co,?_⟩;obtain⟨m',e,q1,q⟩:=q;rw[hm] at e;cases e;refine⟨a9 m xs,g,ρ,?_,R,wpS_mono (b0 T k) m.body ⟨λ_ g'=>LQ K ρ H Q .bf g',LQ K ρ H Q,λ_ _=>False,λ_ _=>False⟩ _ _ _ _ _ ⟨λZ g' h bB H' cR e R' s'=>h bB H' _ e R' .bf,λd g' h=>h,λ_ _ h=>h.elim,λ_ _ h=>h.elim⟩ (λ_ _ z=>z) q⟩;have:=m9.start (n:=d.N.length) rs;unfold a9 L2.start;rw[O.nn];exact this
theorem Vh{L k0:Nat}{a:Addr}{ns:List Int}(hO:xq H)(hS:ft K H a (ns.map V.int))(h:a8 T k0 L [.ref 0] [.nR (ns.map .int)] (λd _=>d=.bl true) je) :
  oG exc K 1 (a8 T k0 L) [.ref a] H (λv _=>v=.bl true) λ_ _ _=>False:=by
 refine⟨rfl,[.ref 0],[.nR (ns.map .int)],[a],.cons (.ref rfl) .nil,⟨rfl,λi o b h1 h2=>?_,λi j l m b h1 h2 m1=>?_⟩,b0 T k0 _ _ _ _ _ _ _ (λd g' e bB H' v _ _ r=>?_) (λ_ _ z=>z.elim) h⟩
 ·cases i with
  |zero =>
   cases h1;cases h2;refine⟨_,?_,b6.ofInts ns⟩;rcases hS with(z|⟨o,z⟩)|z
   ·rcases hO a with q|⟨o,xs,q⟩
    ·rw[z] at q;cases q
    ·rw[z] at q;cases q
   ·exact .inl ⟨o,z⟩
   ·exact .inr z
  |succ i=>simp at h1
 ·cases i with
  |zero=>cases h1;cases m1
  |succ i=>simp at h1
 ·subst e;cases r
  rfl
end
end M
namespace M
open PySem L2
variable{P:eO}{Z:S}{g:G}{Q:KD}{E:KX}{N:Ends}{a i n:Nat}{b:Bool}{c f:Str}{o cond elt:ME}{x y d v:D}{cs:List Str}{l:List D}{A B:Prop}{kvs:List (Key×D)}{kg:G->Prop}{ns:List Int}{d6:List Nat}{R:IK->G->Prop}
section
variable{a b c:ME}{x y:MS}{p:Pr}
theorem Cs(h:N.nx Z g):wpS P .pass N Z g E:=h
theorem Fp(h:wpS P x ⟨λiA g1=>wpS P y N iA g1 E,N.rt,N.bk,N.ct⟩ Z g E):wpS P (.seq x y) N Z g E:=h
theorem Ct(h:wpS P x N Z g E):wpS P (.seq x .pass) N Z g E:=h
theorem MW(h:aS P a Z g (λ_ g1=>N.nx Z g1) E):wpS P (.expr a) N Z g E:=h
theorem Fq(h:aS P a Z g (λx g1=>N.nx (Z.set i (some x)) g1) E):wpS P (.set i a) N Z g E:=h
theorem UH{t:MT}(h:aS P a Z g (λx g1=>jK t x Z λiA=>N.nx iA g1) E):wpS P (.lF t a) N Z g E:=h
theorem Ic{i:ME}(h:aS P a Z g (λx g1=>aS P o Z g1 (λy g2=>aS P i Z g2 (λz g3=>oi y z x g3 λg4=>N.nx Z g4) E) E) E):wpS P (.cN o i a) N Z g E:=h
theorem M'(h:aS P a Z g (λx g1=>aS P o Z g1 (λy g2=>uT f cs y x g2 λg3=>N.nx Z g3) E) E):wpS P (.fT f cs o a) N Z g E:=h
theorem Ho(h:aS P o Z g (λy g1=>∃a' c fs x,y=.ref a'/\g1[a']?=some (.ins c fs)/\c∈cs/\fs.lookup f=some x/\aS P a Z g1 (λz g3=>cK .iadd [x,z] g3 λw g4=>∃iO,g4[a']?=some (.ins c iO)/\iO.length<100/\N.nx Z (g4.set a' (.ins c (x8 f w iO)))) E) E):wpS P (.jU f cs o a) N Z g E:=h
theorem Fo(h:dw P c Z g (λt g1=>if t=true then wpS P x N Z g1 E else wpS P y N Z g1 E) E):wpS P (.ifs c x y) N Z g E:=h
theorem UD(h:aS P a Z g N.rt E):wpS P (.ret a) N Z g E:=h
theorem Ph{x:Str}(h:fe P a Z g (λvs g1=>vs.length<=1000/\E ⟨x⟩ g1) E):wpS P (.raise x a) N Z g E:=h
theorem UG{hs:List (Str×ME)}(h:wpS P x N Z g (mM P N (Z.map λ_=>none) E hs)):wpS P (.oj x hs) N Z g E:=h
theorem SU{x:Xn}{e:ME}{r:List (Str×ME)}(h:aS P e Z g N.rt je):mM P N Z E (("MintError",e)::r) x g:=by unfold mM;rw[aG (.inr rfl)];exact h
theorem w_var(e:Z[i]?=some (some d))(h:Q d g):aS P (.var i) Z g Q E:=by exact⟨d,e,h⟩
theorem w_lit(h:Q d g):aS P (.lit d) Z g Q E:=h
theorem MZ(h:fe P a Z g (λxs g1=>cK p xs g1 Q) E):aS P (.prim p a) Z g Q E:=h
theorem Sk(h:cK p [] g Q):aS P (.prim p .nil) Z g Q E:=by exact h
theorem xA(h:aS P a Z g (λx g1=>cK p [x] g1 Q) E):aS P (.prim p (.cons a .nil)) Z g Q E:=by exact h
theorem oo(h:aS P a Z g (λx g1=>aS P b Z g1 (λy g2=>cK p [x,y] g2 Q) E) E):aS P (.prim p (.cons a (.cons b .nil))) Z g Q E:=by exact h
theorem Pe{o1 o2:CmpOp}(h:aS P a Z g (λx g1=>aS P b Z g1 (λy g2=>cK (.cmp o1) [x,y] g2 λz g3=>∃t,z=.bl t/\if t=true then aS P c Z g3 (λw g4=>cK (.cmp o2) [y,w] g4 Q) E else Q (.bl false) g3) E) E):aS P (.chain o1 o2 a b c) Z g Q E:=h
theorem w_and(h:aS P a Z g (λx g1=>∃t,x=.bl t/\if t=true then aS P b Z g1 Q E else Q (.bl false) g1) E):aS P (.dH a b) Z g Q E:=h
theorem w_not(h:aS P a Z g (λx g1=>∃t,x=.bl t/\Q (.bl (!t)) g1) E):aS P (.cV a) Z g Q E:=h
theorem w_ite(h:dw P c Z g (λt g1=>if t=true then aS P a Z g1 Q E else aS P b Z g1 Q E) E):aS P (.ite c a b) Z g Q E:=h
theorem Cr{f:Nat}(h:fe P a Z g (λxs g1=>P f xs g1 Q E) E):aS P (.call f a) Z g Q E:=h
theorem MX{f:Nat}{c:Str}(h:fe P a Z g (λxs g1=>P f (.ref g1.length::xs) (g1++[.ins c []]) (λd g2=>d=.bf/\Q (.ref g1.length) g2) E) E):aS P (.make c f a) Z g Q E:=h
theorem Pf{m:Str}{cs:List (Str×Nat)}(h:aS P o Z g (λx g1=>∃a' c fs f,x=.ref a'/\g1[a']?=some (.ins c fs)/\fs.lookup m=none/\cs.lookup c=some f/\fe P a Z g1 (λxs g2=>P f (x::xs) g2 Q E) E) E):aS P (.bx m cs o a) Z g Q E:=h
theorem MY(h:aS P o Z g (λx g1=>nE p x g1/\fe P a Z g1 (λxs g2=>cK p (x::xs) g2 Q) E) E):aS P (.eL p o a) Z g Q E:=h
theorem UC(h:fe P a Z (g++[.bO []]) (λxs g1=>∃kvs,rO xs []=some kvs/\xs.length<=30/\g1[g.length]?=some (.bO [])/\Q (.ref g.length) (g1.set g.length (.bO kvs))) E):aS P (.ng a) Z g Q E:=h
theorem BZ{Q:List D->G->Prop}(h:Q [] g):fe P .nil Z g Q E:=h
theorem sy{Q:List D->G->Prop}(h:aS P a Z g (λx g1=>fe P b Z g1 (λxs g2=>Q (x::xs) g2) E) E):fe P (.cons a b) Z g Q E:=h
theorem Na{Q:Bool->G->Prop}(h:dw P a Z g (λt g1=>if t=true then dw P b Z g1 Q E else Q false g1) E):dw P (.dH a b) Z g Q E:=h
theorem UE{Q:Bool->G->Prop}(h:dw P a Z g (λt g1=>if t=true then Q true g1 else dw P b Z g1 Q E) E):dw P (.gC a b) Z g Q E:=h
theorem Nb{Q:Bool->G->Prop}(h:dw P a Z g (λt g1=>Q (!t) g1) E):dw P (.cV a) Z g Q E:=h
theorem Q7{Q:Bool->G->Prop}(h:Q true g):dw P .no Z g Q E:=h
theorem Ft{Q:Bool->G->Prop}(h:aS P a Z g (λx g1=>pj g1 x λb=>Q b g1) E):dw P (.dU a) Z g Q E:=h
end
section
variable{i j:Int}{kb:Bool->Prop}{t s:Bool}{m:List D}
theorem Sn(h:Q (.int (i+j)) g):cK (.bin .Add) [.int i,.int j] g Q:=⟨_,_,.inl ⟨i,j,_,rfl,rfl,rfl,rfl⟩,h⟩
theorem So(h:Q (.int (i-j)) g):cK (.bin .Sub) [.int i,.int j] g Q:=⟨_,_,.inl ⟨i,j,_,rfl,rfl,rfl,rfl⟩,h⟩
theorem rW(c:qt i j)(h:Q (.int (i*j)) g):cK (.bin .Mult) [.int i,.int j] g Q:=⟨_,_,.inl ⟨i,j,_,rfl,⟨c,rfl⟩,rfl,rfl⟩,h⟩
theorem Z0(c:0<j)(h:Q (.int (i % j)) g):cK (.bin .Mod) [.int i,.int j] g Q:=⟨_,_,.inl ⟨i,j,_,rfl,⟨c,rfl⟩,rfl,rfl⟩,h⟩
theorem EC(c:Ao i j)(h:Q (.int (i / j)) g):cK (.bin .FloorDiv) [.int i,.int j] g Q:=⟨_,_,.inl ⟨i,j,_,rfl,⟨c,rfl⟩,rfl,rfl⟩,h⟩
theorem xD(c:nU i j)(h:Q (.int (i ^ j.toNat)) g):cK (.bin .Pow) [.int i,.int j] g Q:=⟨_,_,.inl ⟨i,j,_,rfl,⟨c,rfl⟩,rfl,rfl⟩,h⟩
theorem uL(hl:l.length+m.length<=100000)(h:Q (.tup (l++m)) g):cK (.bin .Add) [.tup l,.tup m] g Q:=⟨_,_,.inr (.inl ⟨rfl,.inl ⟨l,m,rfl,hl,rfl,rfl⟩⟩),h⟩
theorem Ss{i j:Nat}(hi:g[i]?=some (.lst l))(hj:g[j]?=some (.lst m))(hl:l.length+m.length<=100000)(h:Q (.ref g.length) (g++[.lst (l++m)])):cK (.bin .Add) [.ref i,.ref j] g Q:=⟨_,_,.inr (.inl ⟨rfl,.inr (.inl ⟨i,j,l,m,rfl,hi,hj,hl,rfl,rfl⟩)⟩),h⟩
theorem EK{i:Nat}{n:Int}(hi:g[i]?=some (.lst l))(h1:-(2 ^ 62)<=n)(h2:n<2 ^ 62)(hl:l.length*n.toNat<=100000)(h:Q (.ref g.length) (g++[.lst (List.replicate n.toNat l).flatten])):cK (.bin .Mult) [.ref i,.int n] g Q:=⟨_,_,.inr (.inr ⟨rfl,.inl ⟨i,l,n,rfl,hi,h1,h2,hl,rfl,rfl⟩⟩),h⟩
theorem UB(h:Q (.int (-i)) g):cK (.un .USub) [.int i] g Q:=⟨_,_,⟨rfl,i,rfl,rfl,rfl⟩,h⟩
theorem nW{op:CmpOp}(hb:Fy g x y b op)(h:Q (.bl b) g):cK (.cmp op) [x,y] g Q:=⟨_,_,⟨x,y,b,rfl,hb,rfl,rfl⟩,h⟩
theorem Wt(h:Q (.bl (decide (i<j))) g):cK (.cmp .Lt) [.int i,.int j] g Q:=nW ⟨i,j,rfl,rfl,rfl⟩ h
theorem Ws(h:Q (.bl (decide (i<=j))) g):cK (.cmp .LtE) [.int i,.int j] g Q:=nW ⟨i,j,rfl,rfl,rfl⟩ h
theorem Wr(h:Q (.bl (decide (j<i))) g):cK (.cmp .Gt) [.int i,.int j] g Q:=nW ⟨i,j,rfl,rfl,rfl⟩ h
theorem Wq(h:Q (.bl (decide (j<=i))) g):cK (.cmp .GtE) [.int i,.int j] g Q:=nW ⟨i,j,rfl,rfl,rfl⟩ h
theorem xr(h:rG g x y λb=>Q (.bl b) g):cK (.cmp .Eq) [x,y] g Q:=let ⟨_,hb,h⟩:=h;nW hb h
theorem Fx(h:rG g x y λb=>Q (.bl (!b)) g):cK (.cmp .NotEq) [x,y] g Q:=let ⟨b,hb,h⟩:=h;nW (b:=!b) (show uz g x y (!(!b)) from by rw[sI];exact hb) h
theorem rL(h:pR g x y λb=>Q (.bl b) g):cK (.cmp .In) [x,y] g Q:=let ⟨_,hb,h⟩:=h;nW (.inl hb) h
theorem J8(h:pR g x y λb=>Q (.bl (!b)) g):cK (.cmp .NotIn) [x,y] g Q:=let ⟨b,hb,h⟩:=h;nW (b:=!b) (.inl (show inR g x y (!(!b)) from by rw[sI];exact hb)) h
theorem Fd(h:kb (decide (i=j))):rG g (.int i) (.int j) kb:=⟨_,.inl ⟨i,j,rfl,rfl,rfl⟩,h⟩
theorem FJ(h:kb (t==s)):rG g (.bl t) (.bl s) kb:=⟨_,.inr (.inl ⟨t,s,rfl,rfl,rfl⟩),h⟩
theorem TX{x y:Str}(h:kb (decide (x=y))):rG g (.str x) (.str y) kb:=⟨_,.inr (.inr (.inl ⟨x,y,rfl,rfl,rfl⟩)),h⟩
theorem Sv(h:Q (.bl (decide (i=j))) g):cK (.cmp .Eq) [.int i,.int j] g Q:=xr (Fd h)
theorem EL(h:Q (.bl (!decide (i=j))) g):cK (.cmp .NotEq) [.int i,.int j] g Q:=Fx (Fd h)
theorem Su(h:Q (.bl (t==s)) g):cK (.cmp .Eq) [.bl t,.bl s] g Q:=xr (FJ h)
theorem SF(h:Q (.bl (!(t==s))) g):cK (.cmp .NotEq) [.bl t,.bl s] g Q:=Fx (FJ h)
theorem Sw{p q:Str}(h:Q (.bl (decide (p=q))) g):cK (.cmp .Eq) [.str p,.str q] g Q:=xr (TX h)
theorem qw(h:Q (.bl (qK d)) g):cK (.cmp .Is) [d,.bf] g Q:=nW ⟨rfl,rfl⟩ h
theorem Sx(h:Q (.bl true) g):cK (.cmp .Is) [.bf,.bf] g Q:=qw h
theorem Sz(h:Q (.bl false) g):cK (.cmp .Is) [.int i,.bf] g Q:=qw h
theorem Sy(h:Q (.bl false) g):cK (.cmp .Is) [.bl t,.bf] g Q:=qw h
theorem SD{x:Str}(h:Q (.bl false) g):cK (.cmp .Is) [.str x,.bf] g Q:=qw h
theorem SE(h:Q (.bl false) g):cK (.cmp .Is) [.tup l,.bf] g Q:=qw h
theorem SA(h:Q (.bl false) g):cK (.cmp .Is) [.ref n,.bf] g Q:=qw h
theorem Sf(h:kb t):pj g (.bl t) kb:=⟨t,.inr (.inl rfl),h⟩
theorem Uu{i:Nat}(hl:d7 g i=some l)(h:kb (!l.isEmpty)):pj g (.ref i) kb:=⟨_,.inr (.inr (.inr (.inr ⟨i,l,rfl,hl,rfl⟩))),h⟩
theorem wQ{p:Bool->Prop}(h:p t):∃s,D.bl t=D.bl s/\p s:=⟨t,rfl,h⟩
theorem UY{p:Int->Prop}(h:p i):∃s,D.int i=D.int s/\p s:=⟨i,rfl,h⟩
theorem if2{c:Prop}[Decidable c](h1:c->A)(h2:¬c->B):if decide c=true then A else B:=by
 by_cases h:c
 ·rw[aG (aL h)];exact h1 h
 ·rw[az (by rw[ax h];decide)];exact h2 h
theorem js(h:A):if true=true then A else B:=by rw[aG rfl];exact h
theorem og(h:B):if false=true then A else B:=by rw[az (by decide)];exact h
theorem FD(h:A):if(!false)=true then A else B:=by rw[aG (show(!false)=true from rfl)];exact h
theorem QQ(h:B):if(!true)=true then A else B:=by rw[az (by decide)];exact h
theorem fj(hb:b=false)(h:B):if b=true then A else B:=by rw[hb];exact og h
theorem fm(hb:b=true)(h:A):if b=true then A else B:=by rw[hb];exact js h
theorem K0(hl:d7 g a=some l)(h2:iY l i=some d)(h:Q d g):cK .ix [.ref a,.int i] g Q:=⟨_,_,⟨rfl,.inl ⟨_,l,i,rfl,hl,h2⟩⟩,h⟩
theorem Q1(h2:iY l i=some d)(h:Q d g):cK .ix [.tup l,.int i] g Q:=⟨_,_,⟨rfl,.inl ⟨_,l,i,rfl,rfl,h2⟩⟩,h⟩
theorem k7{i:Nat}{k:Key}(hg:g[i]?=some (.bO kvs))(hk:W0 y=some k)(hv:I9 kvs k=some v)(h:Q v g):cK .ix [.ref i,y] g Q:=⟨_,_,⟨rfl,.inr (.inl ⟨i,kvs,y,k,rfl,hg,hk,hv⟩)⟩,h⟩
theorem X7(hl:g[a]?=some (.lst l))(hn:mR l.length i=some n)(h:kg (g.set a (.lst (l.set n v)))):oi (.ref a) (.int i) v g kg:=⟨_,.inl ⟨a,i,l,n,rfl,rfl,hl,hn,rfl⟩,h⟩
theorem Q8{i:Nat}{k:Key}(hg:g[i]?=some (.bO kvs))(hk:W0 y=some k)(hl:kvs.length<100000)(h:kg (g.set i (.bO (putD kvs k v)))):oi (.ref i) y v g kg:=⟨_,.inr ⟨i,kvs,k,rfl,hg,hk,hl,rfl⟩,h⟩
theorem uS{fs:List (Str×D)}(hg:g[a]?=some (.ins c fs))(hc:c∈cs)(hl:fs.length<100)(h:kg (g.set a (.ins c (x8 f v fs)))):uT f cs (.ref a) v g kg:=⟨_,⟨a,c,fs,rfl,hg,hc,hl,rfl⟩,h⟩
theorem v8{fs:List (Str×D)}(hg:g[a]?=some (.ins c fs))(hf:fs.lookup f=some d)(h:Q d g):cK (.fld f) [.ref a] g Q:=⟨_,_,⟨a,c,fs,rfl,hg,hf,rfl⟩,h⟩
theorem a7(h:g[a]?=some (.lst l)):d7 g a=some l:=by simp only[d7,h,Ci]
theorem a29(h:g[a]?=some (.nR l)):d7 g a=some l:=by simp only[d7,h,Ci]
theorem se(hl:d7 g a=some l)(h:Q (.int l.length) g):cK .len [.ref a] g Q:=⟨_,_,⟨rfl,.inl ⟨_,l,rfl,hl,rfl⟩⟩,h⟩
theorem BN(hl:g[a]?=some (.bO kvs))(h:Q (.int kvs.length) g):cK .len [.ref a] g Q:=⟨_,_,⟨rfl,.inr (.inl ⟨a,kvs,rfl,hl,rfl⟩)⟩,h⟩
theorem Mq(h:Q (.tup (cut l (some i) none)) g):cK (.kY true false) [.tup l,.int i] g Q:=⟨_,_,⟨_,i,rfl,.inl ⟨l,rfl,rfl,rfl⟩⟩,h⟩
theorem Mp(h:Q (.tup (cut l none (some i))) g):cK (.kY false true) [.tup l,.int i] g Q:=⟨_,_,⟨_,i,rfl,.inl ⟨l,rfl,rfl,rfl⟩⟩,h⟩
theorem Mo(hl:d7 g a=some l)(h:Q (.ref g.length) (g++[.lst (cut l none (some i))])):cK (.kY false true) [.ref a,.int i] g Q:=⟨_,_,⟨_,i,rfl,.inr ⟨a,l,rfl,hl,rfl,rfl⟩⟩,h⟩
theorem BV(hl:l.length<=1000)(h:Q (.tup l) g):cK .tup l g Q:=⟨_,_,⟨hl,rfl,rfl⟩,h⟩
theorem xO(hl:l.length<=1000)(h:Q (.ref g.length) (g++[.lst l])):cK .lst l g Q:=⟨_,_,⟨hl,rfl,rfl⟩,h⟩
theorem EX(hl:d7 g a=some l)(h:Q (.ref g.length) (g++[.lst l])):cK .list [.ref a] g Q:=⟨_,_,.inl ⟨_,l,rfl,hl,rfl,rfl⟩,h⟩
theorem qN(hg:g[a]?=some (.bO kvs))(hz:kvs.length<=10000)(h:Q (.ref g.length) (g++[.lst ((kvs.map (·.1)).map kD)])):cK .list [.ref a] g Q:=⟨_,_,.inr ⟨a,kvs,rfl,hg,hz,rfl,rfl⟩,h⟩
theorem Tq(h:Q (.ref g.length) (g++[.lst l])):cK .list [.tup l] g Q:=⟨_,_,.inl ⟨_,l,rfl,rfl,rfl,rfl⟩,h⟩
theorem Uz(hl:d7 g a=some l)(h:Q (.tup l) g):cK .tuple [.ref a] g Q:=⟨_,_,⟨_,l,rfl,hl,rfl,rfl⟩,h⟩
theorem gi{c:String}(hc:c∈["int","bool","str","tuple","list"])(hb:qx g d c=some b)(h:Q (.bl b) g):cK .isin [d,.ty c] g Q:=⟨_,_,⟨d,c,b,rfl,hc,hb,rfl,rfl⟩,h⟩
theorem Cg(h:Q (.int (i+j)) g):cK .iadd [.int i,.int j] g Q:=⟨_,_,.inl ⟨i,j,rfl,rfl,rfl⟩,h⟩
theorem HL{i:Nat}(hg:g[i]?=some (.bO kvs))(hk:kvs.map (·.1)=ns.map Sum.inl)(hz:ns.length<60)(h:Q (.ref g.length) (g++[.lst ((q9 ns).map .int)])):cK .eK [.ref i] g Q:=⟨_,_,.inl ⟨i,kvs,ns,rfl,hg,hk,hz,rfl,rfl⟩,h⟩
theorem NX{i:Nat}(hl:d7 g i=some (ns.map .int))(hz:ns.length<60)(h:Q (.ref g.length) (g++[.lst ((N7 ns).map .int)])):cK .eK [.ref i] g Q:=⟨_,_,.inr ⟨_,ns,rfl,hl,hz,rfl,rfl⟩,h⟩
theorem VD(hl:d7 g a=some (ns.map .int))(hz:ns.length<60)(h:Q (.ref g.length) (g++[.lst ((q9 ns).map .int)])):cK .sset [.ref a] g Q:=⟨_,_,⟨a,ns,rfl,hl,hz,rfl,rfl⟩,h⟩
theorem T3(h:Q (.ref g.length) (g++[.bO []])):cK .T3 [] g Q:=⟨_,_,⟨rfl,rfl,rfl⟩,h⟩
theorem VC{n:Int}{fs:List (Key×Int×Int)}(hg:g[a]?=some (.bO (fs.map iX)))(hl:fs.length<1000)(nd:(fs.map (·.1)).Nodup)(h:Q (.ref g.length) (g++[.bO ((fs.filter (Y5 n)).map iX)])):cK .mI [.ref a,.int n] g Q:=⟨_,_,⟨a,n,fs,rfl,hg,hl,nd,rfl,rfl⟩,h⟩
theorem vc{c:Key}(hg:g[a]?=some (.bO kvs))(hk:W0 y=some c)(hv:I9 kvs c=some d)(h:Q d (g.set a (.bO (delD kvs c)))):cK .iM [.ref a,y] g Q:=⟨_,_,⟨a,y,kvs,c,rfl,hg,hk,hv,rfl⟩,h⟩
theorem uQ(hg:g[a]?=some (.bO kvs)):nE .iM (.ref a) g:=⟨a,kvs,rfl,hg⟩
theorem IT(hl:d7 g a=some (ns.map .int))(hz:ns.length<60)(h:Q (.int (ST.f9 [] ns).length) g):cK .V8 [.ref a] g Q:=⟨_,_,⟨a,ns,rfl,hl,hz,rfl,rfl⟩,h⟩
theorem MV{i:Nat}{p:Pr}{v:ME}(e:Z[i]?=some (some x))(h:aS P v Z g (λz g1=>cK p [x,z] g1 λw g2=>N.nx (Z.set i (some w)) g2) E):wpS P (.jy i p v) N Z g E:=⟨x,e,h⟩
theorem SY{v:Bool}(h:Q (.int (if v then 1 else 0)) g):cK .int [.bl v] g Q:=⟨_,_,⟨rfl,.inr ⟨v,rfl,rfl⟩⟩,h⟩
theorem EU{kvs:List D}{x:Str}(hv:R0 kvs x=some v)(h:Q v g):cK .mF [.tup kvs,.str x] g Q:=⟨_,_,⟨kvs,x,rfl,hv,rfl⟩,h⟩
theorem BJ{i:Nat}{v:Bool}(hl:d7 g i=some l)(hv:Y9 l=some v)(h:Q (.bl v) g):cK .all [.ref i] g Q:=⟨_,_,⟨i,l,v,rfl,hl,.inl hv,rfl,rfl⟩,h⟩
theorem p6{i:Nat}{k:S->Prop}(h:k (Z.set i (some x))):jK (.one i) x Z k:=h
theorem AQ{is:List Nat}{bI:S}{k:S->Prop}(e:F5 is l Z=some bI)(h:k bI):jK (.many is) (.tup l) Z k:=⟨l,bI,rfl,e,h⟩
end
theorem Bi:∀(bs:List Bool),Y9 (bs.map D.bl)=some (bs.all id):=by
 intro bs
 induction bs with
 |nil=>rfl
 |cons b r ih=>simp[Y9,ih]
theorem call_of{T:Nat->Option aM}{k f:Nat}{m:aM}{ds:List D}(hT:T f=some m)(hl:ds.length=m.ar)(h:wpS (a8 T k) m.body ⟨λ_ g'=>Q .bf g',Q,λ_ _=>False,λ_ _=>False⟩ (a9 m ds) g E):a8 T (k+1) f ds g Q E:=⟨m,hT,hl,h⟩
theorem j9{a:ME}{f:Nat}{m:Str}{fs:List (Str×D)}{cs:List (Str×Nat)}(hg:g[i]?=some (.ins c fs))(hf:fs.lookup m=none)(hc:cs.lookup c=some f)(h:fe P a Z g (λxs g2=>P f (.ref i::xs) g2 Q E) E) :
  ∃a' c fs f,D.ref i=.ref a'/\g[a']?=some (.ins c fs)/\fs.lookup m=none/\cs.lookup c=some f/\fe P a Z g (λxs g2=>P f (.ref i::xs) g2 Q E) E:=⟨i,c,fs,f,rfl,hg,hf,hc,h⟩
def IK.Is(k:IK)(l:List D)(g:G):Prop:=∀i,k.at i g=some l[i]?
theorem S1:(IK.fix l).Is l g:=λ_=>rfl
theorem w6(h:d7 g a=some l):(IK.lst a).Is l g:=λi=>by simp only[IK.at,h]
def qm(l:List D):List D:=l.mapIdx λi d=>.tup [.int i,d]
theorem U'(h:d7 g a=some l):(IK.ql a).Is (qm l) g:=λi=>by
 simp only[IK.at,h,qm,List.getElem?_mapIdx]
theorem Hy(l:List D):(qm l).length=l.length:=by simp[qm]
theorem Nn(h:(qm l)[i]?=some x):∃d,l[i]?=some d/\x=.tup [.int i,d]:=by
 rw[qm,List.getElem?_mapIdx,ae] at h;obtain⟨d,h1,h2⟩:=h;exact⟨d,h1,h2.symm⟩
theorem vj{lo:Int}(h:(A4 lo n)[i]?=some x):i<n/\x=.int (lo+i):=by
 unfold A4 at h;have hi:i<n:=by
  have:=(aD.mp h).1;simpa using this
 rw[aB,CV hi] at h;cases h;exact⟨hi,rfl⟩
theorem vk(lo:Int)(n:Nat):(A4 lo n).length=n:=by simp[A4]
section
variable{it a b c:ME}{s:MS}{t:MT}
theorem ZW{k:IK}{fin:S->G->Prop}{turn:D->(S->G->Prop)->S->G->Prop}(I:Nat->S->G->Prop)(hk:∀i Z g,I i Z g->k.Is l g)(h0:I 0 Z g)(hs:∀i x Z g,l[i]?=some x->I i Z g->turn x (I (i+1)) Z g)(hd:∀Z g,I l.length Z g->fin Z g):turns k Z g fin turn:=by
 refine⟨λi m Z g=>m=l.length-i/\i<=l.length/\I i Z g,⟨l.length,by simp,bX _,h0⟩,?_⟩;rintro i m Z g ⟨rfl,hi,p⟩;rw[hk i Z g p i];by_cases dC:i<l.length
 ·rw[aC dC];exact .inr ⟨_,rfl,I (i+1),λbI g' p'=>⟨l.length-(i+1),by omega,rfl,dC,p'⟩,hs i l[i] Z g (aC dC) p⟩
 ·have e:i=l.length:=by omega
  subst e;rw[dJ (aj _)];exact .inl ⟨rfl,hd Z g p⟩
inductive vH(P:eO)(t:MT)(s:MS)(N:Ends)(E:KX)(Z:S)(k:IK)(g1:G):Prop
 |mk (l:List D) (I:Nat->S->G->Prop) (hk:∀i Z g,I i Z g->k.Is l g) (h0:I 0 Z g1)
   (hs:∀i x Z g,l[i]?=some x->I i Z g->jK t x Z λcq=>wpS P s ⟨I (i+1),N.rt,N.nx,I (i+1)⟩ cq g E) (hd:∀Z g,I l.length Z g->N.nx Z g):vH P t s N E Z k g1
theorem qQ(hP:j5 P)(h:gH P it Z g (vH P t s N E Z) E):wpS P (.eM t it s) N Z g E :=
 z8 hP it _ _ _ _ _ _ (λk g1 hq=>by obtain⟨l,I,hk,h0,hs,hd⟩:=hq;exact ZW I hk h0 hs hd) (λ_ _ z=>z) h
inductive CompI(P:eO)(t:MT)(cond elt:ME)(E:KX)(Q:KD)(Z:S)(k:IK)(g1:G):Prop
 |mk (l:List D) (I:Nat->List D->S->G->Prop) (hl:l.length<=1000) (hk:∀i ys Z g,I i ys Z g->k.Is l g/\ys.length<=i) (h0:I 0 [] Z g1)
   (hs:∀i x ys Z g,l[i]?=some x->I i ys Z g->jK t x Z λcq=>dw P cond cq g (λc g3=>if c=true then aS P elt cq g3 (λy g4=>I (i+1) (ys++[y]) cq g4) E else I (i+1) ys cq g3) je)
   (hd:∀ys Z g,I l.length ys Z g->Q (.ref g.length) (g++[.lst ys])):CompI P t cond elt E Q Z k g1
theorem U4(hP:j5 P)(h:gH P it Z g (CompI P t cond elt je Q (O8 Z d6 n)) E):aS P (.comp d6 n t it cond elt) Z g Q E:=by
 refine z8 hP it _ _ _ _ _ _ (λk g1 h=>?_) (λ_ _ z=>z) h;obtain⟨l,I,hl,hk,h0,hs,hd⟩:=h;refine⟨λi m ys Z g=>m=l.length-i/\i<=l.length/\I i ys Z g,⟨l.length,by simp,bX _,h0⟩,?_⟩;rintro i m ys Z g ⟨rfl,hi,p⟩;obtain⟨tR,hy⟩:=hk i ys Z g p;rw[tR i];by_cases dC:i<l.length
 ·rw[aC dC];refine .inr ⟨_,rfl,by omega,A2 (λcq q=>n6 hP cond _ _ _ _ _ _ (λc g3 q=>?_) (λ_ _ z=>z) q) (hs i l[i] ys Z g (aC dC) p)⟩;cases c
  ·exact⟨l.length-(i+1),by omega,rfl,dC,by simpa using(show I (i+1) ys cq g3 from q)⟩
  ·exact b8 hP elt _ _ _ _ _ _ (λy g4 q=>⟨l.length-(i+1),by omega,rfl,dC,by simpa using q⟩) (λ_ _ z=>z) q
 ·have e:i=l.length:=by omega
  subst e;rw[dJ (aj _)];exact .inl ⟨rfl,hd ys Z g p⟩
inductive vB(P:eO)(t:MT)(cond elt:ME)(Q:KD)(Z:S)(k:IK)(g1:G):Prop
 |mk (l:List D) (I:Nat->List Int->S->G->Prop) (hl:l.length<60) (hk:∀i ys Z g,I i ys Z g->k.Is l g/\ys.length<=i) (h0:I 0 [] Z g1)
   (hs:∀i x ys Z g,l[i]?=some x->I i ys Z g->jK t x Z λcq=>dw P cond cq g (λc g3=>if c=true then aS P elt cq g3 (λy g4=>∃j,y=.int j/\I (i+1) (ys++[j]) cq g4) je else I (i+1) ys cq g3) je)
   (hd:∀ys Z g,I l.length ys Z g->Q (.ref g.length) (g++[.lst ((q9 ys).map .int)])):vB P t cond elt Q Z k g1
theorem Pj(hP:j5 P)(h:gH P it Z g (vB P t cond elt Q (O8 Z d6 n)) E):aS P (.gJ d6 n t it cond elt) Z g Q E:=by
 refine z8 hP it _ _ _ _ _ _ (λk g1 h=>?_) (λ_ _ z=>z) h;obtain⟨l,I,hl,hk,h0,hs,hd⟩:=h;refine⟨λi m ys Z g=>m=l.length-i/\i<=l.length/\I i ys Z g,⟨l.length,by simp,bX _,h0⟩,?_⟩;rintro i m ys Z g ⟨rfl,hi,p⟩;obtain⟨tR,hy⟩:=hk i ys Z g p;rw[tR i];by_cases dC:i<l.length
 ·rw[aC dC];refine .inr ⟨_,rfl,by omega,A2 (λcq q=>n6 hP cond _ _ _ _ _ _ (λc g3 q=>?_) (λ_ _ z=>z) q) (hs i l[i] ys Z g (aC dC) p)⟩;cases c
  ·exact⟨l.length-(i+1),by omega,rfl,dC,by simpa using(show I (i+1) ys cq g3 from q)⟩
  ·refine b8 hP elt _ _ _ _ _ _ (λy g4 q=>?_) (λ_ _ z=>z) q;obtain⟨j,e,q⟩:=q;exact⟨j,e,l.length-(i+1),by omega,rfl,dC,by simpa using q⟩
 ·have e:i=l.length:=by omega
  subst e;rw[dJ (aj _)];exact .inl ⟨rfl,by omega,hd ys Z g p⟩
theorem Yg(hP:j5 P)(h:aS P a Z g (λx g1=>∃j:Nat,x=.int j/\j<=1000/\∃I:Nat->List D->S->G->Prop,I 0 [] (O8 Z d6 n) g1/\(∀i ys Z g,I i ys Z g->ys.length<=i) /\
      (∀(i:Nat) ys Z g,i<j->I i ys Z g->jK t (.int i) Z λcq=>dw P cond cq g (λc g3=>if c=true then aS P elt cq g3 (λy g4=>I (i+1) (ys++[y]) cq g4) je else I (i+1) ys cq g3) je) /\
      ∀ ys Z g,I j ys Z g->Q (.ref g.length) (g ++ [.lst ys])) E):aS P (.comp d6 n t (.fF a) cond elt) Z g Q E:=by
  refine U4 hP ?_;refine b8 hP a _ _ _ _ _ _ (λx g1 h=>?_) (λ_ _ z=>z) h;obtain⟨j,rfl,hj,I,h0,hz,hs,hd⟩:=h;refine⟨j,rfl,by omega,by omega,_,I,by rw[vk];simpa using hj,λi ys Z g p=>⟨S1,hz i ys Z g p⟩,h0,λi x ys Z g hx p=>?_,λys Z g p=>hd ys Z g (by rw[vk] at p;simpa using p)⟩;obtain⟨hi,rfl⟩:=vj hx;rw[show(0:Int)+(i:Int)=i by omega];exact hs i ys Z g (by simpa using hi) p
theorem Pk(I:Nat->S->G->Prop)(m0:Nat)(h0:I m0 Z g)(hs:∀m Z g,I m Z g->dw P c Z g (λt g1=>if t=true then wpS P s ⟨λbI g'=>∃m',m'<m/\I m' bI g',N.rt,N.nx,λbI g'=>∃m',m'<m/\I m' bI g'⟩ Z g1 E else N.nx Z g1) E)(hP:j5 P):wpS P (.iT c s) N Z g E:=by
 refine⟨I,⟨m0,h0⟩,λm Z g p=>n6 hP c _ _ _ _ _ _ (λt g1 q=>?_) (λ_ _ z=>z) (hs m Z g p)⟩;cases t
 ·exact q
 ·exact⟨_,λ_ _ z=>z,q⟩
theorem xu(hP:j5 P)(h:aS P a Z g (λx g1=>∃j:Int,x=.int j/\-(2 ^ 62)<=j/\j<2 ^ 62/\R (.fix (A4 0 j.toNat)) g1) E):gH P (.fF a) Z g R E:=h
theorem QP(hP:j5 P)(h:aS P a Z g (λx g1=>aS P b Z g1 (λy g2=>∃i j:Int,x=.int i/\y=.int j/\(-(2 ^ 62)<=i/\i<2 ^ 62/\-(2 ^ 62)<=j/\j<2 ^ 62)/\R (.fix (A4 i (j-i).toNat)) g2) E) E):gH P (.iW a b) Z g R E:=h
theorem DD(hP:j5 P)(h:aS P a Z g (λx g1=>∃l,x=.tup l/\R (.fix l) g1) E):gH P (.eR a) Z g R E:=by
 exact b8 hP a _ _ _ _ _ _ (λx g1 h=>.inl h) (λ_ _ z=>z) h
theorem km(hP:j5 P)(h:aS P a Z g (λx g1=>∃i l,x=.ref i/\d7 g1 i=some l/\R (.lst i) g1) E):gH P (.eR a) Z g R E:=by
 exact b8 hP a _ _ _ _ _ _ (λx g1 h=>.inr h) (λ_ _ z=>z) h
theorem DE(h:aS P a Z g (λx g1=>∃i l,x=.ref i/\d7 g1 i=some l/\R (.ql i) g1) E):gH P (.kl a) Z g R E:=h
end
end M
namespace M
open PySem L2 PySem.Spec PyProof.Rows
variable{K:PySem.W.Frag}{x:Str}{C:Addr}
structure RF where
 id:Nat
 nm:Str
 N:List Str
 k:Nat
 i:Nat
 m:aM
structure RM where
 id:Nat
 cl:Str
 nm:Str
 qn:Str
 N:List Str
 k:Nat
 i:Nat
 j:Nat
 m:aM
def RF.d(tp:Nat->Stmt)(r:RF):ot:=⟨r.nm,r.nm,r.N,r.N.take r.k,tp r.i⟩
def RM.d(mt:Nat->Nat->Stmt)(r:RM):ot:=⟨r.nm,r.qn,r.N,r.N.take r.k,mt r.i r.j⟩
def rT(F:List RF)(M:List RM)(i:Nat):Option aM:=match F.find? λr=>Nat.beq r.id i with
 |some r=>some r.m
 |none=>(M.find? λr=>Nat.beq r.id i).map (·.m)
section
variable(tp:Nat->Stmt)(mt:Nat->Nat->Stmt)(K:PySem.W.Frag)
def PF:List RF->Prop
 |[]=>True
 |r::l=>(∃f fd,PySem.W.nsIn K mainGlobals r.nm=some (some (.ref f))/\pz K r.nm r.nm (tp r.i) f fd)/\PF l
def PM:List RM->Prop
 |[]=>True
 |r::l=>(∃C f fd,PySem.W.nsIn K mainGlobals r.cl=some (some (.ref C))/\Meth K C r.nm f/\pz K r.nm r.qn (mt r.i r.j) f fd)/\PM l
def PC:List (Str×Nat)->Prop
 |[]=>True
 |r::l=>(∃C,PySem.W.nsIn K mainGlobals r.1=some (some (.ref C))/\iQ K C/\PySem.W.makesIn K C=true/\PySem.W.keepIn K (.ref C)=true)/\PC l
def PA:List (Str×Str)->Prop
 |[]=>True
 |r::l=>(∃C,PySem.W.nsIn K mainGlobals r.2=some (some (.ref C))/\PySem.W.findIn K (.ref C) r.1=some none)/\PA l
def PB:List Str->Prop
 |[]=>True
 |r::l=>PySem.W.nsIn K mainGlobals r=some none/\PB l
def PX:List Str->Prop
 |[]=>True
 |r::l=>(∃C,PySem.W.nsIn K mainGlobals r=some (some (.ref C))/\PySem.W.excIn K C [.type "ValueError",.type "Exception",.type "BaseException",.type "object"] "ValueError.__new__"=true)/\PX l
def BF:List RF->Prop
 |[]=>True
 |r::l=>(∀(kV doc pm:Value) (an:Option Addr) (fG ct:Value) (us:List Value),us.length=(r.N.take r.k).length->bindArgs (PySem.W.fnOf r.nm r.nm (C0 (tp r.i)) (o7 (tp r.i)) (n8 (tp r.i)) .none kV doc pm an fG ct) ⟨us,[]⟩=pure ((r.N.take r.k).zip us))/\BF l
def BM:List RM->Prop
 |[]=>True
 |r::l=>(∀(kV doc pm:Value) (an:Option Addr) (fG ct:Value) (us:List Value),us.length=(r.N.take r.k).length->bindArgs (PySem.W.fnOf r.nm r.qn (C0 (mt r.i r.j)) (o7 (mt r.i r.j)) (n8 (mt r.i r.j)) .none kV doc pm an fG ct) ⟨us,[]⟩=pure ((r.N.take r.k).zip us))/\BM l
def YF(c:f7):List RF->Prop
 |[]=>True
 |r::l=>u3 (comp 60) (c.at (r.d tp)) (o7 (tp r.i))=some r.m.body/\YF c l
def YM(c:f7):List RM->Prop
 |[]=>True
 |r::l=>u3 (comp 60) (c.at (r.d mt)) (o7 (mt r.i r.j))=some r.m.body/\YM c l
end
section
variable{tp:Nat->Stmt}{mt:Nat->Nat->Stmt}{c:f7}{id k i j:Nat}{cl nm qn:Str}{N:List Str}{m:aM}{f:Addr}{oc kV doc pm fG ct:Value}{od an:Option Addr}{lI:Array (Option Value)}
theorem PF.nil:PF tp K []:=trivial
theorem PF.cons{l:List RF}(a:PySem.W.nsIn K mainGlobals nm=some (some (.ref f)))(lk:K.lookup f=some ⟨oc,od,.func (PySem.W.fnOf nm nm (C0 (tp i)) (o7 (tp i)) (n8 (tp i)) .none kV doc pm an fG ct),lI⟩)(cd:PySem.W.codeIn K fG nm=true)(kp:PySem.W.keepIn K (.ref f)=true)(h:PF tp K l):PF tp K (⟨id,nm,N,k,i,m⟩::l):=⟨⟨f,_,a,IS lk cd kp⟩,h⟩
theorem PM.nil:PM mt K []:=trivial
theorem PM.cons{l:List RM}(c0:PySem.W.nsIn K mainGlobals cl=some (some (.ref C)))(a:PySem.W.findIn K (.ref C) nm=some (some (.ref f)))(af:PySem.W.isFn K (.ref f)=true)(lk:K.lookup f=some ⟨oc,od,.func (PySem.W.fnOf nm qn (C0 (mt i j)) (o7 (mt i j)) (n8 (mt i j)) .none kV doc pm an fG ct),lI⟩)(cd:PySem.W.codeIn K fG qn=true)(kp:PySem.W.keepIn K (.ref f)=true)(h:PM mt K l):PM mt K (⟨id,cl,nm,qn,N,k,i,j,m⟩::l):=⟨⟨C,f,_,c0,⟨a,af,kp⟩,IS lk cd kp⟩,h⟩
theorem PC.nil:PC K []:=trivial
theorem PC.cons{l:List (Str×Nat)}(cn:PySem.W.nsIn K mainGlobals x=some (some (.ref C)))(cp:PySem.W.plainGet K C Str.empty=true)(LU:PySem.W.hasDictIn K C=true)(LO:PySem.W.plainOver K C=true)(LM:PySem.W.findIn K (.ref C) "__setattr__"=some (some (.builtin "object.__setattr__")))(LP:PySem.W.makesIn K C=true)(LR:PySem.W.keepIn K (.ref C)=true)(h:PC K l):PC K ((x,i)::l):=⟨⟨C,cn,⟨cp,LU,LO,LM⟩,LP,LR⟩,h⟩
theorem PA.nil:PA K []:=trivial
theorem PA.cons{l:List (Str×Str)}(cn:PySem.W.nsIn K mainGlobals x=some (some (.ref C)))(fl:PySem.W.findIn K (.ref C) nm=some none)(h:PA K l):PA K ((nm,x)::l):=⟨⟨C,cn,fl⟩,h⟩
theorem PB.nil:PB K []:=trivial
theorem PB.cons{l:List Str}(cn:PySem.W.nsIn K mainGlobals x=some none)(h:PB K l):PB K (x::l):=⟨cn,h⟩
theorem PX.nil:PX K []:=trivial
theorem PX.cons{l:List Str}(cn:PySem.W.nsIn K mainGlobals x=some (some (.ref C)))(q:PySem.W.excIn K C [.type "ValueError",.type "Exception",.type "BaseException",.type "object"] "ValueError.__new__"=true)(h:PX K l):PX K (x::l):=⟨⟨C,cn,q⟩,h⟩
theorem De{P:List Value->Prop}{n:Nat}(h:∀a vs,vs.length=n->P (a::vs))(us:List Value)(hl:us.length=n+1):P us:=by
 cases us with
 |nil=>cases hl
 |cons a vs=>exact h a vs (Nat.succ.inj hl)
theorem Dd{P:List Value->Prop}(h:P [])(us:List Value)(hl:us.length=0):P us:=by
 cases List.length_eq_zero_iff.mp hl;exact h
theorem BF.nil:BF tp []:=trivial
theorem BF.cons{l:List RF}(h:∀(kV doc pm:Value) (an:Option Addr) (fG ct:Value) (us:List Value),us.length=(N.take k).length->bindArgs (PySem.W.fnOf nm nm (C0 (tp i)) (o7 (tp i)) (n8 (tp i)) .none kV doc pm an fG ct) ⟨us,[]⟩=pure ((N.take k).zip us))(h2:BF tp l):BF tp (⟨id,nm,N,k,i,m⟩::l):=⟨h,h2⟩
theorem BM.nil:BM mt []:=trivial
theorem BM.cons{l:List RM}(h:∀(kV doc pm:Value) (an:Option Addr) (fG ct:Value) (us:List Value),us.length=(N.take k).length->bindArgs (PySem.W.fnOf nm qn (C0 (mt i j)) (o7 (mt i j)) (n8 (mt i j)) .none kV doc pm an fG ct) ⟨us,[]⟩=pure ((N.take k).zip us))(h2:BM mt l):BM mt (⟨id,cl,nm,qn,N,k,i,j,m⟩::l):=⟨h,h2⟩
theorem YF.nil:YF tp c []:=trivial
theorem YF.cons{l:List RF}(h:u3 (comp 60) (c.at ⟨nm,nm,N,N.take k,tp i⟩) (o7 (tp i))=some m.body)(h2:YF tp c l):YF tp c (⟨id,nm,N,k,i,m⟩::l):=⟨h,h2⟩
theorem YM.nil:YM mt c []:=trivial
theorem YM.cons{l:List RM}(h:u3 (comp 60) (c.at ⟨nm,qn,N,N.take k,mt i j⟩) (o7 (mt i j))=some m.body)(h2:YM mt c l):YM mt c (⟨id,cl,nm,qn,N,k,i,j,m⟩::l):=⟨h,h2⟩
theorem YF.get:∀{l:List RF},YF tp c l->∀r∈l,u3 (comp 60) (c.at (r.d tp)) (o7 (tp r.i))=some r.m.body
 |_::_,h,r,hr=>(ay.mp hr).elim (λz=>z▸h.1) (YF.get h.2 r)
theorem YM.get:∀{l:List RM},YM mt c l->∀r∈l,u3 (comp 60) (c.at (r.d mt)) (o7 (mt r.i r.j))=some r.m.body
 |_::_,h,r,hr=>(ay.mp hr).elim (λz=>z▸h.1) (YM.get h.2 r)
theorem PF.get:∀{l:List RF},PF tp K l->∀r∈l,∃f fd,PySem.W.nsIn K mainGlobals r.nm=some (some (.ref f))/\pz K r.nm r.nm (tp r.i) f fd
 |_::_,h,r,hr=>(ay.mp hr).elim (λz=>z▸h.1) (PF.get h.2 r)
theorem PM.get:∀{l:List RM},PM mt K l->∀r∈l,∃C f fd,PySem.W.nsIn K mainGlobals r.cl=some (some (.ref C))/\Meth K C r.nm f/\pz K r.nm r.qn (mt r.i r.j) f fd
 |_::_,h,r,hr=>(ay.mp hr).elim (λz=>z▸h.1) (PM.get h.2 r)
theorem PC.get:∀{l:List (Str×Nat)},PC K l->∀r∈l,∃C,PySem.W.nsIn K mainGlobals r.1=some (some (.ref C))/\iQ K C/\PySem.W.makesIn K C=true/\PySem.W.keepIn K (.ref C)=true
 |_::_,h,r,hr=>(ay.mp hr).elim (λz=>z▸h.1) (PC.get h.2 r)
theorem PA.get:∀{l:List (Str×Str)},PA K l->∀r∈l,∃C,PySem.W.nsIn K mainGlobals r.2=some (some (.ref C))/\PySem.W.findIn K (.ref C) r.1=some none
 |_::_,h,r,hr=>(ay.mp hr).elim (λz=>z▸h.1) (PA.get h.2 r)
theorem PB.get:∀{l:List Str},PB K l->∀r∈l,PySem.W.nsIn K mainGlobals r=some none
 |_::_,h,r,hr=>(ay.mp hr).elim (λz=>z▸h.1) (PB.get h.2 r)
theorem PX.get:∀{l:List Str},PX K l->∀r∈l,∃C,PySem.W.nsIn K mainGlobals r=some (some (.ref C))/\PySem.W.excIn K C [.type "ValueError",.type "Exception",.type "BaseException",.type "object"] "ValueError.__new__"=true
 |_::_,h,r,hr=>(ay.mp hr).elim (λz=>z▸h.1) (PX.get h.2 r)
theorem BF.get:∀{l:List RF},BF tp l->∀r∈l,∀(kV doc pm:Value) (an:Option Addr) (fG ct:Value) (us:List Value),us.length=(r.N.take r.k).length->bindArgs (PySem.W.fnOf r.nm r.nm (C0 (tp r.i)) (o7 (tp r.i)) (n8 (tp r.i)) .none kV doc pm an fG ct) ⟨us,[]⟩=pure ((r.N.take r.k).zip us)
 |_::_,h,r,hr=>(ay.mp hr).elim (λz=>z▸h.1) (BF.get h.2 r)
theorem BM.get:∀{l:List RM},BM mt l->∀r∈l,∀(kV doc pm:Value) (an:Option Addr) (fG ct:Value) (us:List Value),us.length=(r.N.take r.k).length->bindArgs (PySem.W.fnOf r.nm r.qn (C0 (mt r.i r.j)) (o7 (mt r.i r.j)) (n8 (mt r.i r.j)) .none kV doc pm an fG ct) ⟨us,[]⟩=pure ((r.N.take r.k).zip us)
 |_::_,h,r,hr=>(ay.mp hr).elim (λz=>z▸h.1) (BM.get h.2 r)
end
def vU(N P:List Str)(sc:Scope):Bool:=decide (sc.kind=.function)&&!sc.isCoroutine&&!sc.isGenerator&&decide N.Nodup&&decide (N.take P.length=P)&&P.all (λx=>decide (sc.names.lookup x=some .local)||decide (sc.names.lookup x=some .cell))&&sc.names.all λy=>decide (y.2≠.free)
theorem Hf{N P:List Str}{sc:Scope}(h:vU N P sc=true):iC N P sc:=by
 unfold vU at h;simp only[Bool.and_eq_true,decide_eq_true_eq,Bool.not_eq_true',List.all_eq_true,Bool.or_eq_true] at h;obtain⟨⟨⟨⟨⟨⟨h1,h2⟩,h3⟩,h4⟩,h5⟩,h6⟩,h7⟩:=h;exact⟨h1,h2,h3,h4,h5,h6,h7⟩
theorem a08{h₀:Heap}{mg:Str->Option Value}{EB:List Value}{newId:String}(X:K.In h₀)(G:h₀.Ns mainGlobals mg)(e:PySem.W.nsIn K mainGlobals x=some (some (.ref C)))(q:PySem.W.excIn K C EB newId=true):PyProof.Rows.OwnCls x C EB newId mg h₀:=by
 refine⟨bS X G e,?_⟩;unfold PySem.W.excIn at q;split at q
 ·rename_i dd cd sl ho;split at q
  ·rename_i C' bm k0 k1 k2 k3 n k5 hm hs;simp only[Bool.and_eq_true,beq_iff_eq,Bool.not_eq_true'] at q;obtain⟨⟨⟨⟨⟨z1,z2⟩,tZ⟩,ht⟩,bw⟩,wc⟩:=q;subst z1;subst z2;obtain⟨nm,bs,mro,ns,qn,hd,sn,sub,ab,col,del⟩:=cd;dsimp only at hm tZ bw wc;subst hm tZ;have pU:sl=#[k0,k1,k2,k3,some (.builtin n),k5]:=by
    obtain⟨l⟩:=sl;simp only at hs;rw[hs]
   subst pU;exact⟨bm,ns,nm,qn,bs,hd,sn,sub,ab,col,dd,k0,k1,k2,k3,k5,_,X _ _ ho,.of_isNs (PySem.W.isNs_of_in X bw),PySem.W.nsMap_none_of_in X bw wc,PySem.W.tail_of_in X ht⟩
  ·cases q
 ·cases q
def U3(K:PySem.W.Frag)(x:Str):Addr:=match PySem.W.nsIn K mainGlobals x with
 |some (some (.ref C))=>C
 |_=>0
def Hz(K:PySem.W.Frag)(exc:List Str):Bool:=exc.all λx=>exc.all λy=>decide (PySem.W.exmOne K (.ref (U3 K x)) (.ref (U3 K y))=some (decide (x=y\/y="MintError")))
theorem UT{exc:List Str}(h:Hz K exc=true){y:Str}{C':Addr}(hx:exc.contains x=true)(hy:exc.contains y=true)(hC:p7 K x C)(zp:p7 K y C'):PySem.W.exmOne K (.ref C) (.ref C')=some (decide (x=y\/y="MintError")):=by
 have h1:=cg.mp h x (by simpa using hx);have h2:=aN (cg.mp h1 y (by simpa using hy));have e1:U3 K x=C:=by unfold U3;rw[show PySem.W.nsIn K mainGlobals x=_ from hC]
 have e2:U3 K y=C':=by unfold U3;rw[show PySem.W.nsIn K mainGlobals y=_ from zp]
 rw[e1,e2] at h2;exact h2
theorem AH{α:Type}{f:α->Nat}:∀{l:List α},(l.map f).Nodup->∀r∈l,l.find? (λx=>Nat.beq (f x) (f r))=some r
 |y::l,nd,r,hr=>by
  rw[bc,eI] at nd;rcases ay.mp hr with rfl|hr
  ·rw[List.find?_cons_of_pos];exact Nat.beq_refl _
  ·rw[List.find?_cons_of_neg]
   ·exact AH nd.2 r hr
   ·intro z;exact nd.1 (au.mpr ⟨r,hr,(iE z).symm⟩)
theorem Nq{α β:Type}{f:α->Nat}{g:β->Nat}{l:List α}{r:β}(h:g r∉l.map f):l.find? (λx=>Nat.beq (f x) (g r))=none:=by
 rw[List.find?_eq_none];intro x hx z;exact h (au.mpr ⟨x,hx,iE z⟩)
section
variable{w:World}{h₀:Heap}{mg:Str->Option Value}{c:f7}{F:List RF}{M:List RM}{tp:Nat->Stmt}{mt:Nat->Nat->Stmt}
structure kQ(K:PySem.W.Frag)(c:f7)(F:List RF)(M:List RM)(tp:Nat->Stmt)(mt:Nat->Nat->Stmt):Prop where
 qF:PF tp K F
 qM:PM mt K M
 qC:PC K c.cls
 qA:PA K c.mY
 qB:PB K c.blt
 qX:PX K c.exc
 xm:Hz K c.exc=true
structure kO(c:f7)(F:List RF)(M:List RM)(tp:Nat->Stmt)(mt:Nat->Nat->Stmt):Prop where
 cf:c.fns=F.map λr=>(r.nm,r.id)
 cm:c.mQ=M.map λr=>(r.nm,r.cl,r.id)
 ci:c.cls.all (λy=>M.any λr=>decide (r.cl=y.1)&&decide (r.nm="__init__")&&Nat.beq r.id y.2)=true
 nd:(F.map (·.id)++M.map (·.id)).Nodup
 sF:F.all (λr=>vU r.N (r.N.take r.k) (n8 (tp r.i))&&decide (r.m.ar=(r.N.take r.k).length)&&decide (r.m.n=r.N.length))=true
 sM:M.all (λr=>vU r.N (r.N.take r.k) (n8 (mt r.i r.j))&&decide (r.m.ar=(r.N.take r.k).length)&&decide (r.m.n=r.N.length))=true
 oF:YF tp c F
 oM:YM mt c M
 bF:BF tp F
 bM:BM mt M
theorem HV(I:kQ K c F M tp mt)(X:kO c F M tp mt)(r:RF)(hr:r∈F):∃f fd,jf K c (r.d tp) r.m f fd/\PySem.W.nsIn K mainGlobals r.nm=some (some (.ref f))/\rT F M r.id=some r.m:=by
 obtain⟨f,fd,a,q⟩:=I.qF.get r hr;have s:=cg.mp X.sF r hr;simp only[Bool.and_eq_true,decide_eq_true_eq] at s;have o:=X.oF.get r hr;refine⟨f,fd,⟨q,q.binds (X.bF.get r hr),Hf s.1.1,o,s.1.2,s.2⟩,a,?_⟩;unfold rT;rw[AH (f:=(·.id)) (gB.mp X.nd).1 r hr]
theorem HW(I:kQ K c F M tp mt)(X:kO c F M tp mt)(r:RM)(hr:r∈M):∃C f fd,jf K c (r.d mt) r.m f fd/\PySem.W.nsIn K mainGlobals r.cl=some (some (.ref C))/\Meth K C r.nm f/\rT F M r.id=some r.m:=by
 obtain⟨C,f,fd,a,q1,q⟩:=I.qM.get r hr;have s:=cg.mp X.sM r hr;simp only[Bool.and_eq_true,decide_eq_true_eq] at s;have o:=X.oM.get r hr;refine⟨C,f,fd,⟨q,q.binds (X.bM.get r hr),Hf s.1.1,o,s.1.2,s.2⟩,a,q1,?_⟩;have nd:=gB.mp X.nd;unfold rT;rw[Nq (f:=λr:RF=>r.id) (g:=λr:RM=>r.id) (r:=r) (λz=>nd.2.2 _ z _ (au.mpr ⟨r,hr,rfl⟩) rfl),AH (f:=λr:RM=>r.id) nd.2.1 r hr]
 rfl
theorem MM(I:kQ K c F M tp mt)(Y:kO c F M tp mt)(X:K.In h₀)(G:h₀.Ns mainGlobals mg)(con:∀x d,c.con.lookup x=some d->∃v u,mg x=some u/\RelV v u/\∀ρ H,f6 K ρ H d v)(qg:∀x kvs,c.gd.lookup x=some kvs->∃A vs,mg x=some (.ref A)/\uK K w.params A vs/\oZ K kvs vs):mK w K mg c (rT F M):=by
 refine⟨λx i hx=>?_,λx i hx=>?_,λx y i C hx hC=>?_,λf y C hx hC=>?_,con,λx hx=>?_,λx hx=>?_,λx y C C' hx hy hC zp=>UT I.xm hx hy hC zp,qg⟩
 ·have hm:=aK hx;rw[Y.cf] at hm;obtain⟨r,hr,e⟩:=au.mp hm;cases e;obtain⟨f,fd,O,a,t⟩:=HV I Y r hr;exact⟨_,_,f,fd,t,O,bS X G a⟩
 ·have hm:=aK hx;have h1:=cg.mp Y.ci _ hm;obtain⟨r,hr,e⟩:=du.mp h1;simp only[Bool.and_eq_true,decide_eq_true_eq] at e;obtain⟨⟨e1,e2⟩,e3⟩:=e;have e3:=iE e3;obtain⟨C,f,fd,O,a,q,t⟩:=HW I Y r hr;obtain⟨C',a',hc,mk,kp⟩:=I.qC.get _ hm;rw[e1] at a;cases a.symm.trans a';rw[e2] at q;rw[e3] at t;exact⟨C,_,_,f,fd,t,O,bS X G a,a,hc,⟨mk,q.at_,q.fn,kp⟩⟩
 ·rw[Y.cm] at hx;obtain⟨r,hr,e⟩:=au.mp hx;cases e;obtain⟨C',f,fd,O,a,q,t⟩:=HW I Y r hr;cases a.symm.trans hC;exact⟨_,_,f,fd,t,O,q⟩
 ·obtain⟨C',a,q⟩:=I.qA.get _ hx;cases a.symm.trans hC;exact q
 ·exact PySem.W.mg_none_of X G (I.qB.get x (by simpa using hx))
 ·obtain⟨C,a,q⟩:=I.qX.get x (by simpa using hx);exact⟨_,bS X G a,a,λbase mh ur=>⟨_,_,_,_,a08 mh ur a q,PySem.F.excBase_ValueError⟩⟩
end
end M
namespace M
open PySem L2
variable{g g':G}{i n k a b m p hd cl lc lf qc qf gv lr q:Nat}{o o':O}{j f v u:Int}{P:eO}{Q:KD}{E:KX}{N:Ends}{ms ns ds:List Int}{l:List Nat}{α:Type}{c:c8}{x:Str}{y e:D}{kb:Bool->Prop}{cs:List c8}{Z:S}{w:RW}{hs:Hs}{fs:Fs}
set_option hygiene false
local macro_rules|`(tactic|walk_at"w1")=>`(tactic|with_reducible first|refine Ct ?_|refine Fp ?_|refine Fq ?_|refine UD ?_|refine MW ?_|refine UH ?_|refine Ic ?_|refine M' ?_|refine Fo ?_|refine Cs ?_|refine yf ?_|(refine w_var (d:=?_) ?_ ?_;rotate_left;·with_unfolding_all rfl)|refine w_lit ?_|refine oo ?_|refine xA ?_|refine Sk ?_|refine MZ ?_|refine Pe ?_|refine w_and ?_|refine w_or ?_|refine w_not ?_|refine w_ite ?_|refine Cr ?_|refine MX ?_|refine Pf ?_|refine BZ ?_|refine sy ?_|refine Na ?_|refine UE ?_|refine Nb ?_|refine Q7 ?_|refine Ft ?_|refine Sn ?_|refine So ?_|refine UB ?_|refine Wt ?_|refine Ws ?_|refine Wr ?_|refine Wq ?_|refine Sv ?_|refine EL ?_|refine Su ?_|refine SF ?_|refine Sw ?_|refine Sx ?_|refine Sz ?_|refine Sy ?_|refine SD ?_|refine SE ?_|refine SA ?_|refine qw ?_|refine Es ?_|refine Er ?_|refine Eo ?_|refine Ep ?_|refine En ?_|refine Sf ?_|refine wQ ?_|refine UY ?_|refine js ?_|refine og ?_|refine FD ?_|refine QQ ?_|refine DB ?_|refine yj ?_|refine Mq ?_|refine Mp ?_|refine Dq ?_|refine Tq ?_|refine Dg ?_)
local macro_rules|`(tactic|walk_at"w2")=>`(tactic|repeat(with_reducible first|walk_at "w1"|refine BV (by simp) ?_|refine xO (by simp) ?_|refine K0 (a7 (by assumption)) (by with_unfolding_all rfl) ?_|refine se (a7 (by assumption)) ?_|refine xD (by unfold nU;decide) ?_))
local macro_rules|`(tactic|walk_at"w3")=>`(tactic|repeat(with_reducible first|walk_at "w1"|refine BV (by simp) ?_|refine xO (by simp) ?_|refine K0 (a7 (by assumption)) (by with_unfolding_all rfl) ?_|refine se (a7 (by assumption)) ?_|refine xD (by unfold nU;decide) ?_|refine And.intro (show List.length _ <= 1000 from by simp) ?_|refine AQ (by with_unfolding_all rfl) ?_|refine p6 ?_|refine Q1 (by with_unfolding_all rfl) ?_))
local macro_rules|`(tactic|walk_at"")=>`(tactic|repeat(with_reducible first|walk_at "w1"|refine Ph ?_|refine UG ?_|refine MY ?_|refine Em ?_|refine Di ?_|refine Dh ?_|refine max2 ?_|refine min2 ?_|refine SY ?_|refine T3 ?_|refine Lz ?_|refine Eg ?_|refine BV (by simp) ?_|refine xO (by simp) ?_|refine K0 (a7 (by assumption)) (by with_unfolding_all rfl) ?_|refine se (a7 (by assumption)) ?_|refine xD (by unfold nU;decide) ?_|refine And.intro (show List.length _ <= 1000 from by simp) ?_|refine AQ (by with_unfolding_all rfl) ?_|refine p6 ?_|refine Q1 (by with_unfolding_all rfl) ?_|refine And.intro (yy (by assumption)) ?_|refine And.intro (yx (by assumption)) ?_|refine And.intro (Kd (by assumption)) ?_|refine Z0 (by decide) ?_|refine BH (by decide) (by decide) ?_|refine DE ?_))
set_option hygiene true
abbrev cC(a:ME):ME:=.cons a .nil
abbrev cS(a b:ME):ME:=.cons a (.cons b .nil)
abbrev dN(a b c:ME):ME:=.cons a (.cons b (.cons c .nil))
abbrev lQ(a b c d:ME):ME:=.cons a (.cons b (.cons c (.cons d .nil)))
abbrev ox(a b c d e:ME):ME:=.cons a (.cons b (.cons c (.cons d (.cons e .nil))))
abbrev wm(a b c d e f:ME):ME:=.cons a (.cons b (.cons c (.cons d (.cons e (.cons f .nil)))))
abbrev Ed(a b c d e f g:ME):ME:=.cons a (.cons b (.cons c (.cons d (.cons e (.cons f (.cons g .nil))))))
abbrev cw(o:PySem.CmpOp)(a b:ME):ME:=.dU (.prim (.cmp o) (.cons a (.cons b .nil)))
abbrev bp(a b:ME):ME:=.prim .ix (.cons a (.cons b .nil))
abbrev aQ(a:Int):ME:=.lit (.int a)
abbrev bR(a:PySem.Str):ME:=.lit (.str a)
abbrev cj(p:Pr)(a:ME):ME:=.prim p (.cons a .nil)
abbrev bJ(p:Pr)(a b:ME):ME:=.prim p (.cons a (.cons b .nil))
abbrev aq:ME:=.var 0
abbrev aE:ME:=.var 1
abbrev aP:ME:=.var 2
abbrev bh:ME:=.var 3
abbrev cB:ME:=.var 4
abbrev dR:ME:=.var 5
abbrev fE:ME:=.var 6
abbrev jq:ME:=.var 7
abbrev mf:ME:=.var 8
abbrev lZ:ME:=.var 9
def M6:aM:=⟨2,5,(.seq (.ifs (.dH (cw .Lt (bp aq (aQ 2)) aE) (cw .Lt (bp aq (aQ 1)) (cj .len (bp aq (aQ 0))))) (.seq (.set 2 (bp (bp aq (aQ 0)) (bp aq (aQ 1)))) (.seq (.cN aq (aQ 1) (bJ (.bin .Add) (bp aq (aQ 1)) (aQ 1))) (.seq (.cN aq (aQ 2) (aQ 0)) (.seq (.ifs (cw .GtE aP (bJ (.bin .Pow) (aQ 10) (aQ 18))) (.seq (.cN aq (aQ 2) aP) .pass) (.seq (.cN aq (aQ 3) (bJ (.bin .Mod) (bJ (.bin .Add) (bJ (.bin .Add) (bJ (.bin .Mult) (bp aq (aQ 3)) (aQ 48271)) (bJ (.bin .Mult) (bJ (.bin .Mod) aP (aQ 2147483629)) (aQ 69621))) (aQ 12345)) (aQ 2147483647))) .pass)) .pass)))) .pass) (.seq (.ifs (cw .GtE (bp aq (aQ 2)) aE) (.seq (.set 3 (bJ (.bin .Mod) (bp aq (aQ 2)) aE)) (.seq (.cN aq (aQ 2) (bJ (.bin .FloorDiv) (bp aq (aQ 2)) aE)) (.seq (.ret bh) .pass))) .pass) (.seq (.set 4 (bp aq (aQ 3))) (.seq (.cN aq (aQ 3) (bJ (.bin .Mod) (bJ (.bin .Add) (bJ (.bin .Add) (bJ (.bin .Mult) (bJ (.bin .Mod) (bJ (.bin .Mult) cB cB) (aQ 2147483629)) (aQ 5)) (bJ (.bin .Mult) cB (aQ 16811))) (aQ 2531011)) (aQ 2147483647))) (.seq (.ret (bJ (.bin .Mod) (bJ (.bin .Add) (bJ (.bin .FloorDiv) (bp aq (aQ 3)) (aQ 59)) (bJ (.bin .Mult) (bJ (.bin .Mod) (bp aq (aQ 3)) (aQ 8191)) (aQ 31))) aE)) .pass)))))⟩
def qz:aM:=⟨1,2,(.seq (.set 1 (.call 4 (cS aq (bJ (.bin .Pow) (aQ 10) (aQ 9))))) (.seq (.ifs (cw .Eq (.call 4 (cS aq (aQ 2))) (aQ 0)) (.seq (.set 1 (bJ (.bin .Add) aE (bJ (.bin .Pow) (aQ 10) (aQ 25)))) .pass) .pass) (.seq (.ifs (cw .Eq (.call 4 (cS aq (aQ 2))) (aQ 0)) (.seq (.ret (bJ (.bin .Sub) (cj (.un .USub) (aQ 1)) aE)) .pass) .pass) (.seq (.ret aE) .pass))))⟩
structure k9(g:G)(d:Nat):Prop where
 ex:∃(s:Nat) (p b r:Int) (xs:List Int),g[d]?=some (.lst [.ref s,.int p,.int b,.int r])/\g[s]?=some (.lst (xs.map .int))/\s<d/\0<=p/\0<=b/\0<=r/\r<2147483647
structure Gr(d:Nat)(g g':G):Prop where
 len:g.length<=g'.length
 old:∀i,i≠d->i<g.length->g'[i]?=g[i]?
theorem Gr.refl(d:Nat)(g:G):Gr d g g:=⟨aj _,λ_ _ _=>rfl⟩
theorem Gr.trans{d:Nat}{g g1 g2:G}(a:Gr d g g1)(b:Gr d g1 g2):Gr d g g2:=⟨aJ a.len b.len,λi h1 h2=>(b.old i h1 (ak h2 a.len)).trans (a.old i h1 h2)⟩
theorem Gr.set(d:Nat)(g:G)(o:O):Gr d g (g.set d o):=⟨by simp,λi h1 h2=>aR (aZ h1)⟩
theorem Gr.snoc(d:Nat)(g:G)(o:O):Gr d g (g++[o]):=⟨by simp,λi h1 h2=>aH h2⟩
theorem Gr.at{d:Nat}(h:Gr d g g')(hi:i≠d)(e:g[i]?=some o):g'[i]?=some o:=(h.old i hi (aD.mp e).1).trans e
theorem m8(h:g[i]?=some o):i<g.length:=(aD.mp h).1
theorem k9.lt{d:Nat}(h:k9 g d):d<g.length:=by
 obtain⟨_,_,_,_,_,e,_⟩:=h.ex;exact m8 e
theorem k9.snoc{d:Nat}(h:k9 g d)(o:O):k9 (g++[o]) d:=by
 obtain⟨s,p,b,r,xs,e1,e2,q⟩:=h.ex;exact⟨s,p,b,r,xs,by rw[aH (m8 e1)];exact e1,by rw[aH (m8 e2)];exact e2,q⟩
def E2:MS->MS
 |.seq _ b=>b
 |x=>x
theorem UP{i:Int}(h1:-(2 ^ 64)<i)(h2:i<2 ^ 64):qt i j:=.inl ⟨h1,h2⟩
theorem uZ{i:Int}(h1:-(2 ^ 64)<j)(h2:j<2 ^ 64):qt i j:=.inr ⟨h1,h2⟩
theorem Xa{d:Nat}{n:Int}{c2:Option D}(hN:N.rt=Q)(D0:k9 g d)(hn:0<n)(nL:n<1073741824)(h:∀r g',0<=r->r<n->k9 g' d->Gr d g g'->Q (.int r) g'):wpS P (E2 M6.body) N [some (.ref d),some (.int n),c2,none,none] g E:=by
 obtain⟨s,p,b,r,xs,e1,e2,nJ,hp,hb,hr,la⟩:=D0.ex;have dC:=m8 e1;subst hN;dsimp[M6,E2];walk_at "w2";refine if2 (λc=>?_) (λc=>?_)
 ·walk_at "w2";refine Z0 hn ?_;walk_at "w2";refine EC ⟨hn,nL⟩ ?_;walk_at "w2";refine X7 e1 (by with_unfolding_all rfl) ?_;walk_at "w2";refine h _ _ (iy _ (by omega)) (gg _ hn) ⟨s,p,b / n,r,xs,?_,?_,nJ,hp,Int.ediv_nonneg hb (by omega),hr,la⟩ (Gr.set d g _)
  ·rw[aY dC];rfl
  ·rw[aR (bt nJ)];exact e2
 ·walk_at "w2";have Ds:-(2 ^ 64)<r/\r<2 ^ 64:=⟨by omega,by omega⟩
  refine rW (UP Ds.1 Ds.2) ?_;walk_at "w2";refine Z0 (by decide) ?_;walk_at "w2";refine rW (uZ (by decide) (by decide)) ?_;walk_at "w2";refine rW (uZ (by decide) (by decide)) ?_;walk_at "w2";refine Z0 (by decide) ?_;walk_at "w2";refine X7 e1 (by with_unfolding_all rfl) ?_;generalize tJ:(r*r % 2147483629*5+r*16811+2531011) % 2147483647=r';have q0:0<=r':=by rw[<- tJ];exact iy _ (by decide)
  have q1:r'<2147483647:=by rw[<- tJ];exact gg _ (by decide)
  have LL:(g.set d (.lst [.ref s,.int p,.int b,.int r']))[d]?=some (.lst [.ref s,.int p,.int b,.int r']):=aY dC;show wpS P _ _ _ (g.set d (.lst [.ref s,.int p,.int b,.int r'])) E;walk_at "w2";refine EC ⟨by decide,by decide⟩ ?_;walk_at "w2";refine Z0 (by decide) ?_;walk_at "w2";refine rW (uZ (by decide) (by decide)) ?_;walk_at "w2";refine Z0 hn ?_;walk_at "w2";refine h _ _ (iy _ (by omega)) (gg _ hn) ⟨s,p,b,r',xs,LL,?_,nJ,hp,hb,q0,q1⟩ (Gr.set d g _);rw[aR (bt nJ)];exact e2
theorem j8{T:Nat->Option aM}(hT:T 4=some M6){d:Nat}{n:Int}(D0:k9 g d)(hn:0<n)(nL:n<1073741824)(h:∀r g',0<=r->r<n->k9 g' d->Gr d g g'->Q (.int r) g'):a8 T (k+1) 4 [.ref d,.int n] g Q E:=by
 obtain⟨s,p,b,r,xs,e1,e2,nJ,hp,hb,hr,la⟩:=D0.ex;have dC:=m8 e1;refine call_of hT rfl ?_;have tail:∀(g':G) (c2:Option D),k9 g' d->Gr d g g'->wpS (a8 T k) (E2 M6.body) ⟨λ_ g'=>Q .bf g',Q,λ_ _=>False,λ_ _=>False⟩ [some (.ref d),some (.int n),c2,none,none] g' E :=
  λg' c2 D1 gr=>Xa rfl D1 hn nL λr g2 a b c e=>h r g2 a b c (gr.trans e)
 dsimp[M6,a9,List.replicate];walk_at "w2";refine if2 (λc=>?_) (λc=>?_)
 ·walk_at "w2";refine if2 (λc'=>?_) (λc'=>?_)
  ·walk_at "w2";have fI:p.toNat<xs.length:=by
    rw[ao] at c';omega
   have ea:iY (xs.map D.int) p=some (.int xs[p.toNat]):=by
    have:=ve (xs:=xs.map D.int) (j:=p.toNat) (v:=.int xs[p.toNat]) (by rw[aB,aC fI];rfl)
    rwa [show((p.toNat:Nat):Int)=p by omega] at this
   refine K0 (a7 e2) ea ?_;generalize xs[p.toNat]=cell;walk_at "w2";refine X7 e1 (by with_unfolding_all rfl) ?_;have f1:(g.set d (.lst [.ref s,.int (p+1),.int b,.int r]))[d]?=some (.lst [.ref s,.int (p+1),.int b,.int r]):=aY dC;show wpS (a8 T k) _ _ _ (g.set d (.lst [.ref s,.int (p+1),.int b,.int r])) E;walk_at "w2";refine X7 f1 (by with_unfolding_all rfl) ?_;rw[kf];have f2:(g.set d (.lst [.ref s,.int (p+1),.int 0,.int r]))[d]?=some (.lst [.ref s,.int (p+1),.int 0,.int r]):=aY dC;show wpS (a8 T k) _ _ _ (g.set d (.lst [.ref s,.int (p+1),.int 0,.int r])) E;walk_at "w2";refine if2 (λc2=>?_) (λc2=>?_)
   ·walk_at "w2";refine X7 f2 (by with_unfolding_all rfl) ?_;rw[kf];refine tail _ _ ⟨s,p+1,cell,r,xs,aY dC,by rw[aR (bt nJ)];exact e2,nJ,by omega,?_,hr,la⟩ (Gr.set d g _);have:(10:Int) ^ (18:Int).toNat<=cell:=c2;have Ec:(0:Int)<=10 ^ (18:Int).toNat:=by decide
    omega
   ·walk_at "w2";refine rW (uZ (by decide) (by decide)) ?_;walk_at "w2";refine Z0 (by decide) ?_;walk_at "w2";refine rW (uZ (by decide) (by decide)) ?_;walk_at "w2";refine Z0 (by decide) ?_;walk_at "w2";refine X7 f2 (by with_unfolding_all rfl) ?_;rw[kf];exact tail _ _ ⟨s,p+1,0,_,xs,aY dC,by rw[aR (bt nJ)];exact e2,nJ,by omega,by decide,iy _ (by decide),gg _ (by decide)⟩ (Gr.set d g _)
  ·walk_at "w1";exact tail _ _ D0 (Gr.refl _ _)
 ·walk_at "w1";walk_at "w1";exact tail _ _ D0 (Gr.refl _ _)
theorem Cf{T:Nat->Option aM}(hT:T 4=some M6)(Le:T 5=some qz){d:Nat}(D0:k9 g d)(h:∀r g',k9 g' d->Gr d g g'->Q (.int r) g'):a8 T (k+2) 5 [.ref d] g Q E:=by
 refine call_of Le rfl ?_;dsimp[qz,a9,List.replicate];walk_at "w2";refine j8 hT D0 (by decide) (by decide) λr1 g1 _ _ D1 G1=>?_;walk_at "w2";refine j8 hT D1 (by decide) (by decide) λr2 g2 _ _ D2 G2=>?_;walk_at "w2";have Je:=G1.trans G2;have last:∀(x:Int),wpS (a8 T (k+1)) (E2 (E2 qz.body)) ⟨λ_ g'=>Q .bf g',Q,λ_ _=>False,λ_ _=>False⟩ [some (.ref d),some (.int x)] g2 E:=λx=>by
  dsimp[qz,E2];walk_at "w2";refine j8 hT D2 (by decide) (by decide) λr3 g3 _ _ D3 G3=>?_;walk_at "w2";refine if2 (λc=>?_) (λc=>?_)
  ·walk_at "w2";exact h _ _ D3 (Je.trans G3)
  ·walk_at "w2";exact h _ _ D3 (Je.trans G3)
 refine if2 (λc=>?_) (λc=>?_)
 ·refine Ct ?_;refine Fq ?_;refine oo ?_;walk_at "w1";refine oo ?_;walk_at "w1";walk_at "w1";refine xD (by unfold nU;decide) ?_;walk_at "w1";exact last _
 ·exact last _
def Bn:aM:=⟨1,1,(.seq (.ret (.dH (bJ .isin aq (.lit (.ty "int"))) (.cV (bJ .isin aq (.lit (.ty "bool")))))) .pass)⟩
def Z1:aM:=⟨3,3,(.seq (.ret (.dH (.call 38 (cC aq)) (.chain .LtE .LtE aE aq aP))) .pass)⟩
structure NF(T:Nat->Option aM):Prop where
 nf:T 1=some Z1
 is:T 38=some Bn
def K7:aM:=⟨1,3,(.seq (.set 1 (aQ 0)) (.seq (.eM (.one 2) (.eR aq) (.seq (.ifs (.cV (.dU (.call 1 (dN aP aE (aQ 7))))) (.seq (.ret (.lit (.bl false))) .pass) .pass) (.seq (.set 1 (bJ (.bin .Add) aP (aQ 1))) .pass))) (.seq (.ret (.lit (.bl true))) .pass)))⟩
def xM:aM:=⟨1,1,(.seq (.ret (.prim .lst (lQ (cj .list (bJ (.kY false true) aq (aQ 63))) (aQ 0) (aQ 0) (aQ 29)))) .pass)⟩
def vq:aM:=⟨1,1,(.seq (.ret (.dH (bJ .isin aq (.lit (.ty "int"))) (.cV (bJ .isin aq (.lit (.ty "bool")))))) .pass)⟩
def E9:aM:=⟨2,2,(.seq (.ifs (cw .Is aE (.lit .bf)) (.seq (.ret (bJ (.cmp .Is) aq (.lit .bf))) .pass) .pass) (.seq (.ifs (.dU (bJ .isin aE (.lit (.ty "bool")))) (.seq (.ret (.dH (bJ .isin aq (.lit (.ty "bool"))) (bJ (.cmp .Eq) aq aE))) .pass) .pass) (.seq (.ifs (.dU (bJ .isin aE (.lit (.ty "int")))) (.seq (.ret (.dH (.call 6 (cC aq)) (bJ (.cmp .Eq) aq aE))) .pass) .pass) (.seq (.ifs (.dU (bJ .isin aE (.lit (.ty "str")))) (.seq (.ret (.dH (bJ .isin aq (.lit (.ty "str"))) (bJ (.cmp .Eq) aq aE))) .pass) .pass) (.seq (.ifs (.gC (cw .NotEq (bJ .isin aE (.lit (.ty "tuple"))) (bJ .isin aq (.lit (.ty "tuple")))) (cw .NotEq (bJ .isin aE (.lit (.ty "list"))) (bJ .isin aq (.lit (.ty "list"))))) (.seq (.ret (.lit (.bl false))) .pass) .pass) (.seq (.ifs (cw .NotEq (cj .len aq) (cj .len aE)) (.seq (.ret (.lit (.bl false))) .pass) .pass) (.seq (.ret (cj .all (.comp [1,0] 4 (.one 3) (.fF (cj .len aE)) .no (.call 7 (cS (bp aE bh) (bp aq bh)))))) .pass)))))))⟩
def V5:aM:=⟨1,1,(.seq (.ret (bJ (.cmp .Eq) (cj .list aq) (.comp [0] 3 (.one 2) (.fF (aQ 8)) (cw .In aP aq) aP))) .pass)⟩
theorem R9{g:G}{n:Nat}:∀ms:List Int,(ms.map D.int).mapM (rd g n)=some (ms.map PyData.int)
 |[]=>rfl
 |m::r=>by
  rw[bc,List.mapM_cons,R9 r];cases n<;>rfl
theorem lay_ints:∀ms:List Int,PyData.canLayAll0 (ms.map PyData.int)=true
 |[]=>by simp[PyData.canLayAll0]
 |m::r=>by simp[PyData.canLayAll0,PyData.canLay0,lay_ints r]
theorem GL:∀ms ns:List Int,PyData.eqvAll (ms.map PyData.int) (ns.map PyData.int)=decide (ms=ns)
 |[],[]=>by simp[PyData.eqvAll]
 |[],_::_=>by simp[PyData.eqvAll]
 |_::_,[]=>by simp[PyData.eqvAll]
 |m::r,n::q=>by
  simp only[List.map_cons,PyData.eqvAll,PyData.eqv,GL r q];by_cases h:m=n
  ·subst h;simp
  ·simp[h]
theorem a32{i:Int}{k:Bool->Prop}(h:k (ms.any λm=>m==i)):pR g (.int i) (.tup (ms.map .int)) k:=by
 refine⟨_,.inr ⟨_,_,_,rfl,R9 ms,rfl,lay_ints ms,by simp[PyData.canLay0],rfl⟩,?_⟩;rw[List.any_map];exact h
theorem a42{k:Bool->Prop}(ha:d7 g a=some (ms.map .int))(hb:d7 g b=some (ns.map .int))(h:k (decide (ms=ns))):rG g (.ref a) (.ref b) k:=by
 refine⟨_,.inr (.inr (.inr ⟨.list (ms.map .int),.list (ns.map .int),?_,?_,?_,?_,rfl⟩)),?_⟩
 ·simp only[rd];rw[ha];dsimp only;rw[R9];rfl
 ·simp only[rd];rw[hb];dsimp only;rw[R9];rfl
 ·simp[PyData.canLay0,lay_ints]
 ·simp[PyData.canLay0,lay_ints]
 ·simp only[PyData.eqv,GL];exact h
section
variable{T:Nat->Option aM}{d:Nat}
theorem E6(h1:NF T){i:Int}(h:Q (.bl true) g):a8 T (k+1) 38 [.int i] g Q E:=by
 refine call_of h1.is rfl ?_;dsimp[Bn,a9,List.replicate];walk_at "w2";refine gi (c:="int") (b:=true) (by decide) rfl ?_;walk_at "w2";refine gi (c:="bool") (b:=false) (by decide) rfl ?_;walk_at "w2";exact h
theorem K6(h1:NF T){i l m:Int}(h:Q (.bl (decide (l<=i)&&decide (i<=m))) g):a8 T (k+2) 1 [.int i,.int l,.int m] g Q E:=by
 refine call_of h1.nf rfl ?_;dsimp[Z1,a9,List.replicate];walk_at "w2";refine E6 h1 ?_;walk_at "w2";refine if2 (λc=>?_) (λc=>?_)
 ·rw[aL c] at h;walk_at "w2";exact h
 ·rw[ax c] at h;exact h
def gm:Int->List Int->Bool
 |_,[]=>true
 |l,x::r=>(decide (l<=x)&&decide (x<=7))&&gm (x+1) r
theorem GZ(h1:NF T)(h2:T 2=some K7)(h:Q (.bl (gm 0 ms)) g):a8 T (k+3) 2 [.tup (ms.map .int)] g Q E:=by
 refine call_of h2 rfl ?_;dsimp[K7,a9,List.replicate];walk_at "w2";refine qQ (b0 T _) (DD (b0 T _) ?_);walk_at "w2";refine⟨_,rfl,_,λi Z g'=>g'=g/\∃(l:Int) (z:Option D),Z=[some (.tup (ms.map .int)),some (.int l),z]/\gm 0 ms=gm l (ms.drop i),λ_ _ _ _=>S1,⟨rfl,0,none,rfl,rfl⟩,λi x Z g' hx p=>?_,λZ g' p=>?_⟩
 ·obtain⟨rfl,l,z,rfl,e⟩:=p;rw[aB] at hx;cases em:ms[i]? with
  |none=>rw[em] at hx;cases hx
  |some m =>
   rw[em] at hx;cases hx;have hi:=(aD.mp em).1;have ed:ms.drop i=m::ms.drop (i+1):=by
    rw[dZ hi]
    congr 1
    exact(aD.mp em).2
   rw[ed] at e;simp only[gm] at e;show wpS _ _ _ _ _ _;walk_at "w2";refine K6 h1 ?_;walk_at "w2";cases hc:(decide (l<=m)&&decide (m<=7)) with
   |true =>
    rw[hc,Bool.true_and] at e;show wpS _ _ _ _ _ _;walk_at "w2";exact⟨rfl,m+1,some (.int m),rfl,e⟩
   |false =>
    rw[hc,nz] at e;rw[e] at h;show wpS _ _ _ _ _ _;walk_at "w2";exact h
 ·obtain⟨rfl,l,z,rfl,e⟩:=p;rw[List.drop_eq_nil_of_le (by simp)] at e;simp only[gm] at e;rw[e] at h;show wpS _ _ _ _ _ _;walk_at "w2";exact h
theorem NW(h3:T 3=some xM)(hg:g[a]?=some (.nR (ns.map .int)))(h:∀d g',k9 g' d->g.length<=d->(∀i,i<g.length->g'[i]?=g[i]?)->Q (.ref d) g'):a8 T (k+1) 3 [.ref a] g Q E:=by
 refine call_of h3 rfl ?_;dsimp[xM,a9,List.replicate];walk_at "w2";refine Mo (a29 hg) ?_;walk_at "w2";refine EX (l:=cut (ns.map D.int) none (some 63)) (a7 (by simp)) ?_;walk_at "w2";have ec:cut (ns.map D.int) none (some 63)=(cut ns none (some 63)).map D.int:=by
  unfold cut;simp[List.map_take,List.map_drop]
 refine h _ _ ⟨g.length+1,0,0,29,cut ns none (some 63),?_,?_,?_,by decide,by decide,by decide,by decide⟩ (by simp) (λi hi=>?_)
 ·simp
 ·rw[<- ec];simp
 ·simp
 ·simp[List.getElem?_append,hi,Nat.lt_of_lt_of_le hi (by omega:g.length<=g.length+1),Nat.lt_of_lt_of_le hi (by omega:g.length<=g.length+1+1)]
theorem GP(h8:T 8=some V5)(h:∀g',Gr d g g'->(k9 g d->k9 g' d)->Q (.bl (decide (ms=((List.range 8).map λ(n:Nat)=>(n:Int)).filter λs=>ms.any λm=>m==s))) g'):a8 T (k+1) 8 [.tup (ms.map .int)] g Q E:=by
 refine call_of h8 rfl ?_;dsimp[V5,a9,List.replicate];walk_at "w2";refine Yg (b0 T _) ?_;walk_at "w2";refine⟨8,rfl,by decide,λi ys Z g'=>g'=g++[.lst (ms.map .int)]/\ys.length<=i/\(∃z w,Z=[some (.tup (ms.map .int)),z,w])/\ys=((((List.range i).map λ(n:Nat)=>(n:Int)).filter λs=>ms.any λm=>m==s).map D.int),⟨rfl,by simp,⟨none,none,rfl⟩,rfl⟩,λi ys Z g' p=>p.2.1,λi ys Z g' hi p=>?_,λys Z g' p=>?_⟩
 ·obtain⟨rfl,hl,⟨z,w,rfl⟩,e⟩:=p;show dw _ _ _ _ _ _;walk_at "w2";refine rL (a32 ?_);walk_at "w2";have er:(List.range (i+1)).map (λ(n:Nat)=>(n:Int))=(List.range i).map (λ(n:Nat)=>(n:Int))++[(i:Int)]:=by rw[List.range_succ];simp
  cases hc:(ms.any λm=>m==(i:Int)) with
  |true =>
   refine js ?_;walk_at "w2";refine⟨rfl,by simp;omega,⟨_,_,rfl⟩,?_⟩;rw[er,cQ,cv,<- e];simp[hc]
  |false =>
   refine og ?_;refine⟨rfl,by omega,⟨_,_,rfl⟩,?_⟩;rw[er,cQ,cv,<- e];simp[hc]
 ·obtain⟨rfl,hl,_,e⟩:=p;rw[e];refine xr (a42 (ms:=ms) (a7 (by simp)) (a7 (by simp;rfl)) ?_);exact h _ ((Gr.snoc d g _).trans (Gr.snoc d _ _)) λD0=>(D0.snoc _).snoc _
end
theorem EV:∀{ms:List Int} {l:Int},ms.Pairwise (· < ·)->(∀m∈ms,l<=m/\m<=7)->gm l ms=true
 |[],_,_,_=>rfl
 |m::r,l,hp,h=>by
  obtain⟨h1,h2⟩:=cO.mp hp;have hm:=h m (by simp);simp only[gm];rw[aL hm.1,aL hm.2,EV h2 λx hx=>⟨by have:=h1 x hx;omega,(h x (by simp[hx])).2⟩]
  rfl
theorem A8{l:List α}{r:Int}(h0:0<=r)(h1:r<l.length):∃v,iY l r=some v/\v∈l:=by
 have hi:r.toNat<l.length:=by omega
 refine⟨l[r.toNat],?_,dY hi⟩;have:=ve (xs:=l) (j:=r.toNat) (v:=l[r.toNat]) (aC hi)
 rwa [show((r.toNat:Nat):Int)=r by omega] at this
section
variable{T:Nat->Option aM}
theorem HG(h7:T 7=some E9){a b:Bool}(h:Q (.bl (a==b)) g):a8 T (k+1) 7 [.bl a,.bl b] g Q E:=by
 refine call_of h7 rfl ?_;dsimp[E9,a9,List.replicate];walk_at "w2";walk_at "w2";refine gi (c:="bool") (b:=true) (by decide) rfl ?_;walk_at "w2";refine gi (c:="bool") (b:=true) (by decide) rfl ?_;walk_at "w2";exact h
end
theorem Gf(ms:List Int):gm 0 ms=decide (ms=((List.range 8).map λ(n:Nat)=>(n:Int)).filter λs=>ms.any λm=>m==s):=by
 rw[bG,cc];constructor
 ·intro h;have key:∀(ms:List Int) (l:Int),gm l ms=true->ms.Pairwise (· < ·)/\∀m∈ms,l<=m/\m<=7:=by
   intro ms
   induction ms with
   |nil=>intro l _;exact⟨List.Pairwise.nil,by simp⟩
   |cons m r ih =>
    intro l h;simp only[gm,Bool.and_eq_true,decide_eq_true_eq] at h;obtain⟨⟨h1,h2⟩,h3⟩:=h;obtain⟨p1,p2⟩:=ih (m+1) h3;refine⟨cO.mpr ⟨λx hx=>by have:=p2 x hx;omega,p1⟩,λx hx=>?_⟩;rcases ay.mp hx with z|z
    ·subst z;exact⟨h1,h2⟩
    ·have:=p2 x z;omega
  obtain⟨p1,p2⟩:=key ms 0 h;have uniq:∀(xs ys:List Int),xs.Pairwise (· < ·)->ys.Pairwise (· < ·)->(∀z,z∈xs↔z∈ys)->xs=ys:=by
   intro xs
   induction xs with
   |nil =>
    intro ys _ _ h;cases ys with
    |nil=>rfl
    |cons y r=>exact absurd ((h y).mpr (by simp)) (by simp)
   |cons x xs ih =>
    intro ys hx hy h;cases ys with
    |nil=>exact absurd ((h x).mp (by simp)) (by simp)
    |cons y ys =>
     obtain⟨a1,a2⟩:=cO.mp hx;obtain⟨b1,b2⟩:=cO.mp hy;have LF:x=y:=by
      rcases ay.mp ((h x).mp (by simp)) with z|z
      ·exact z
      ·rcases ay.mp ((h y).mpr (by simp)) with w|w
       ·exact w.symm
       ·have:=b1 x z;have:=a1 y w;omega
     subst LF
     congr 1
     refine ih ys a2 b2 λz=>⟨λhz=>?_,λhz=>?_⟩
     ·rcases ay.mp ((h z).mp (by simp[hz])) with w|w
      ·subst w;exact absurd (a1 z hz) (by omega)
      ·exact w
     ·rcases ay.mp ((h z).mpr (by simp[hz])) with w|w
      ·subst w;exact absurd (b1 z hz) (by omega)
      ·exact w
  refine uniq _ _ p1 ?_ λz=>?_
  ·refine xY _ ?_
   decide
  ·simp only[List.mem_filter,List.any_eq_true,beq_iff_eq,exists_eq_right,List.mem_map,List.mem_range];refine⟨λhz=>⟨⟨z.toNat,by have:=p2 z hz;omega,by have:=p2 z hz;omega⟩,hz⟩,λhz=>hz.2⟩
 ·intro h;rw[h];refine EV ?_ λm hm=>?_
  ·refine xY _ ?_
   decide
  ·obtain⟨hm,_⟩:=bE.mp hm;obtain⟨n,hn,rfl⟩:=au.mp hm;have:=dP.mp hn;omega
def C9:aM:=⟨1,8,(.seq (.lF (.many [1,2,3,4,5]) aq) (.seq (.set 6 (.dH (.call 1 (dN aE (aQ 1) (aQ 99))) (.call 2 (cC aP)))) (.seq (.set 7 (.dH (.call 1 (dN bh (aQ 1) (aQ 99))) (.call 2 (cC cB)))) (.seq (.ret (.dH fE (.dH jq (.call 1 (dN dR (aQ 0) (aQ 9999)))))) .pass))))⟩
def P5:aM:=⟨1,1,(.seq (.ifs (.gC (.cV (.dU (.chain .LtE .LtE (aQ 1) (bp aq (aQ 0)) (aQ 99)))) (.gC (.cV (.dU (.chain .LtE .LtE (aQ 1) (bp aq (aQ 2)) (aQ 99)))) (.cV (.dU (.chain .LtE .LtE (aQ 0) (bp aq (aQ 4)) (aQ 9999)))))) (.seq (.ret (.lit (.bl false))) .pass) .pass) (.seq (.ret (.dH (.call 8 (cC (bp aq (aQ 1)))) (.call 8 (cC (bp aq (aQ 3)))))) .pass))⟩
def Y0:aM:=⟨2,10,(.seq (.set 2 (.call 4 (cS aq (aQ 12)))) (.seq (.lF (.many [3,4,5,6,7]) aE) (.seq (.set 8 (bp (.prim .lst (wm (bJ .tup (aQ 1) (aQ 0)) (bJ .tup (aQ 3) (aQ 3)) (cj .tup (aQ 8)) (bJ .tup (cj (.un .USub) (aQ 1)) (aQ 2)) (bJ .tup (aQ 0) (aQ 9)) (bJ .tup (aQ 7) (bJ (.bin .Pow) (aQ 10) (aQ 20))))) (.call 4 (cS aq (aQ 6))))) (.seq (.set 9 (bp (.prim .lst (lQ (aQ 0) (aQ 100) (cj (.un .USub) (aQ 1)) (.call 5 (cC aq)))) (.call 4 (cS aq (aQ 4))))) (.seq (.ifs (cw .Eq aP (aQ 0)) (.seq (.ret (.prim .tup (ox lZ cB dR fE jq))) .pass) .pass) (.seq (.ifs (cw .Eq aP (aQ 1)) (.seq (.ret (.prim .tup (ox bh mf dR fE jq))) .pass) .pass) (.seq (.ifs (cw .Eq aP (aQ 2)) (.seq (.ret (.prim .tup (ox bh cB lZ fE jq))) .pass) .pass) (.seq (.ifs (cw .Eq aP (aQ 3)) (.seq (.ret (.prim .tup (ox bh cB dR mf jq))) .pass) .pass) (.seq (.ifs (cw .Eq aP (aQ 4)) (.seq (.ret (.prim .tup (ox bh cB dR fE (bp (.prim .lst (lQ (cj (.un .USub) (aQ 1)) (aQ 10000) (aQ 9999) (.call 5 (cC aq)))) (.call 4 (cS aq (aQ 4))))))) .pass) .pass) (.seq (.ret aE) .pass))))))))))⟩
structure c8 where
 lo:Int
 lm:List Int
 up:Int
 um:List Int
 yr:Int
def c8.d(c:c8):D:=.tup [.int c.lo,.tup (c.lm.map .int),.int c.up,.tup (c.um.map .int),.int c.yr]
def k8(c:c8):Bool:=((decide (1<=c.lo)&&decide (c.lo<=99))&&gm 0 c.lm)&&(((decide (1<=c.up)&&decide (c.up<=99))&&gm 0 c.um)&&(decide (0<=c.yr)&&decide (c.yr<=9999)))
section
variable{T:Nat->Option aM}{d:Nat}
theorem X2(h1:NF T)(h2:T 2=some K7)(qe:T 12=some C9)(h:Q (.bl (k8 c)) g):a8 T (k+4) 12 [c.d] g Q E:=by
 refine call_of qe rfl ?_;dsimp[C9,a9,List.replicate,c8.d];walk_at "w3";refine K6 h1 ?_;have s1:∀b:Bool,b=((decide (1<=c.lo)&&decide (c.lo<=99))&&gm 0 c.lm)->wpS (a8 T (k+3)) (E2 (E2 C9.body)) ⟨λ_ g'=>Q .bf g',Q,λ_ _=>False,λ_ _=>False⟩ [some c.d,some (.int c.lo),some (.tup (c.lm.map .int)),some (.int c.up),some (.tup (c.um.map .int)),some (.int c.yr),some (.bl b),none] g E:=by
  intro b hb;dsimp[C9,E2];walk_at "w3";refine K6 h1 ?_;have s2:∀b':Bool,b'=((decide (1<=c.up)&&decide (c.up<=99))&&gm 0 c.um)->wpS (a8 T (k+3)) (E2 (E2 (E2 C9.body))) ⟨λ_ g'=>Q .bf g',Q,λ_ _=>False,λ_ _=>False⟩ [some c.d,some (.int c.lo),some (.tup (c.lm.map .int)),some (.int c.up),some (.tup (c.um.map .int)),some (.int c.yr),some (.bl b),some (.bl b')] g E:=by
   intro b' jd;dsimp[C9,E2];have e:k8 c=(b&&(b'&&(decide (0<=c.yr)&&decide (c.yr<=9999)))):=by unfold k8;rw[hb,jd]
   rw[e] at h;walk_at "w3";cases b
   ·exact og h
   ·refine js ?_;walk_at "w3";cases b'
    ·exact og h
    ·refine js ?_;walk_at "w3";exact K6 h1 h
  refine wQ ?_;cases hc:(decide (1<=c.up)&&decide (c.up<=99)) with
  |false=>exact og (s2 false (by rw[hc];rfl))
  |true =>
   refine js ?_;walk_at "w1";walk_at "w1";walk_at "w1";walk_at "w1";exact GZ h1 h2 (s2 _ (by rw[hc];rfl))
 refine wQ ?_;cases hc:(decide (1<=c.lo)&&decide (c.lo<=99)) with
 |false=>exact og (s1 false (by rw[hc];rfl))
 |true =>
  refine js ?_;walk_at "w1";walk_at "w1";walk_at "w1";walk_at "w1";exact GZ h1 h2 (s1 _ (by rw[hc];rfl))
theorem Gu(h8:T 8=some V5)(wk:T 13=some P5)(h:∀g',Gr d g g'->(k9 g d->k9 g' d)->Q (.bl (k8 c)) g'):a8 T (k+2) 13 [c.d] g Q E:=by
 refine call_of wk rfl ?_;have no:k8 c=false->Q (.bl false) g:=λe=>by
  have:=h g (Gr.refl _ _) id
  rwa [e] at this
 dsimp[P5,a9,List.replicate,c8.d];walk_at "w3";have fin:k8 c=(gm 0 c.lm&&gm 0 c.um)->wpS (a8 T (k+1)) (E2 P5.body) ⟨λ_ g'=>Q .bf g',Q,λ_ _=>False,λ_ _=>False⟩ [some c.d] g E:=λe=>by
  dsimp[P5,E2,c8.d];walk_at "w3";refine GP h8 (d:=d) λg1 G1 D1=>?_;rw[<- Gf];refine wQ ?_;have h':=h;rw[e] at h';cases hl:gm 0 c.lm with
  |false =>
   rw[hl,nz] at h';exact og (h' g1 G1 D1)
  |true =>
   rw[hl,Bool.true_and] at h';refine js ?_;walk_at "w3";refine GP h8 (d:=d) λg2 G2 D2=>?_;rw[<- Gf];exact h' g2 (G1.trans G2) λz=>D2 (D1 z)
 have out:k8 c=false->wpS (a8 T (k+1)) (.seq (.ret (.lit (.bl false))) .pass) ⟨λiA g1=>wpS (a8 T (k+1)) (E2 P5.body) ⟨λ_ g'=>Q .bf g',Q,λ_ _=>False,λ_ _=>False⟩ iA g1 E,Q,λ_ _=>False,λ_ _=>False⟩ [some c.d] g E:=λe=>by
  walk_at "w3";exact no e
 refine if2 (λc1=>?_) (λc1=>?_)
 ·walk_at "w3";cases c2:decide (c.lo<=99) with
  |false=>exact out (by unfold k8;rw[c2];simp)
  |true =>
   walk_at "w3";refine if2 (λc3=>?_) (λc3=>?_)
   ·walk_at "w3";cases c4:decide (c.up<=99) with
    |false=>exact out (by unfold k8;rw[c4];simp)
    |true =>
     walk_at "w3";refine if2 (λc5=>?_) (λc5=>?_)
     ·walk_at "w3";cases c6:decide (c.yr<=9999) with
      |false=>exact out (by unfold k8;rw[c6];simp)
      |true=>exact fin (by unfold k8;rw[aL c1,c2,aL c3,c4,aL c5,c6];simp)
     ·walk_at "w3";exact no (by unfold k8;rw[ax c5];simp)
   ·walk_at "w3";exact no (by unfold k8;rw[ax c3];simp)
 ·walk_at "w3";exact no (by unfold k8;rw[ax c1];simp)
end
theorem c7:(g++[o])[g.length]?=some o:=by simp
theorem wX(h:g[i]?=some o):(g++[o'])[i]?=some o:=by rw[aH (m8 h)];exact h
theorem get_set(h:g[i]?=some o):(g.set i o')[i]?=some o':=aY (m8 h)
theorem d8{j:Nat}(h:g[i]?=some o)(hn:j≠i):(g.set j o')[i]?=some o:=by rw[aR hn];exact h
def xj:aM:=⟨1,5,(.seq (.set 1 (.prim .lst (Ed (.prim .tup .nil) (cj .tup (aQ 0)) (bJ .tup (aQ 0) (aQ 1)) (cj .tup (aQ 1)) (.prim .tup (dN (aQ 0) (aQ 1) (aQ 2))) (.prim .tup (lQ (aQ 0) (aQ 1) (aQ 2) (aQ 7))) (cj .tup (aQ 2))))) (.seq (.set 2 (bp aE (.call 4 (cS aq (bp (bJ .tup (aQ 4) (aQ 7)) (cj .int (bJ (.cmp .Eq) (.call 4 (cS aq (aQ 4))) (aQ 0)))))))) (.seq (.set 3 (bp aE (.call 4 (cS aq (aQ 5))))) (.seq (.set 4 (bp (.prim .lst (wm (aQ 0) (aQ 0) (aQ 1400) (aQ 1400) (aQ 1401) (aQ 1))) (.call 4 (cS aq (aQ 6))))) (.seq (.ret (.prim .tup (ox (bJ (.bin .Add) (aQ 1) (.call 4 (cS aq (aQ 3)))) aP (bJ (.bin .Add) (aQ 1) (.call 4 (cS aq (aQ 4)))) bh cB))) .pass)))))⟩
structure kR(c:c8):Prop where
 good:k8 c=true
 l8:c.lm.length<=8
 u8:c.um.length<=8
theorem kR.mk'{lo up yr:Int}{lm um:List Int}(h1:1<=lo)(h2:lo<=99)(h3:1<=up)(h4:up<=99)(h5:0<=yr)(h6:yr<=9999)(h7:gm 0 lm=true)(h8:gm 0 um=true)(h9:lm.length<=8)(Ec:um.length<=8):kR ⟨lo,lm,up,um,yr⟩:=by
 refine⟨?_,h9,Ec⟩;simp only[k8,h7,h8,decide_eq_true h1,decide_eq_true h2,decide_eq_true h3,decide_eq_true h4,decide_eq_true h5,decide_eq_true h6]
 rfl
theorem kR.inv(h:kR c):(1<=c.lo/\c.lo<=99)/\gm 0 c.lm=true/\(1<=c.up/\c.up<=99)/\gm 0 c.um=true/\0<=c.yr/\c.yr<=9999:=by
 have:=h.good;unfold k8 at this;simp only[Bool.and_eq_true,decide_eq_true_eq] at this;obtain⟨⟨⟨a,b⟩,e⟩,⟨⟨c',d⟩,f⟩,p,q⟩:=this;exact⟨⟨a,b⟩,e,⟨c',d⟩,f,p,q⟩
def Q9:List (List Int):=[[],[0],[0,1],[1],[0,1,2],[0,1,2,7],[2]]
theorem NL:∀ms∈Q9,gm 0 ms=true/\ms.length<=8:=by decide
theorem HJ{r:Int}(h0:0<=r)(h7:r<7):∃ms,iY (Q9.map λms=>D.tup (ms.map .int)) r=some (.tup (ms.map .int))/\gm 0 ms=true/\ms.length<=8:=by
 obtain⟨v,hv,hm⟩:=A8 (l:=Q9.map λms=>D.tup (ms.map .int)) h0 (by simpa[Q9] using h7);obtain⟨ms,h1,rfl⟩:=au.mp hm;exact⟨ms,hv,NL ms h1⟩
section
variable{T:Nat->Option aM}{d:Nat}
theorem Yh(h4:T 4=some M6)(zA:T 22=some xj)(D0:k9 g d)(h:∀c g',kR c->k9 g' d->Gr d g g'->Q c.d g'):a8 T (k+2) 22 [.ref d] g Q E:=by
 refine call_of zA rfl ?_;dsimp[xj,a9,List.replicate];have dl:=D0.lt;walk_at"";have D1:=D0.snoc (.lst (Q9.map λms=>D.tup (ms.map .int)));have G1:=Gr.snoc d g (.lst (Q9.map λms=>D.tup (ms.map .int)));have e1:(g++[O.lst (Q9.map λms=>D.tup (ms.map .int))])[g.length]?=some (.lst (Q9.map λms=>D.tup (ms.map .int))):=c7;show a8 _ _ _ _ (g++[O.lst (Q9.map λms=>D.tup (ms.map .int))]) _ _;generalize g++[O.lst (Q9.map λms=>D.tup (ms.map .int))]=g1 at *;refine j8 h4 D1 (by decide) (by decide) λr g2 r0 r1 D2 G2=>?_;walk_at"";have e2:=G2.at (by omega) e1;have hn:∃n:Int,iY [D.int 4,D.int 7] (if decide (r=0)=true then 1 else 0)=some (.int n)/\0<n/\n<=7:=by
  by_cases hr:r=0
  ·exact⟨7,by rw[aL hr];rfl,by decide,by decide⟩
  ·exact⟨4,by rw[ax hr];rfl,by decide,by decide⟩
 obtain⟨n,en,n0,n7⟩:=hn;refine Q1 en ?_;walk_at"";refine j8 h4 D2 n0 (by omega) λr3 g3 JN r31 D3 G3=>?_;have e3:=G3.at (by omega) e2;obtain⟨lm,el,gl,ll⟩:=HJ JN (by omega);refine K0 (a7 e3) el ?_;walk_at"";refine j8 h4 D3 (by decide) (by decide) λr4 g4 JL r41 D4 G4=>?_;have e4:=G4.at (by omega) e3;obtain⟨um,eu,gu,lu⟩:=HJ JL (by omega);refine K0 (a7 e4) eu ?_;walk_at"";have e5:(g4++[O.lst [.int 0,.int 0,.int 1400,.int 1400,.int 1401,.int 1]])[g4.length]?=some (.lst [.int 0,.int 0,.int 1400,.int 1400,.int 1401,.int 1]):=c7;refine j8 h4 (D4.snoc _) (by decide) (by decide) λr5 g5 JK JJ D5 G5=>?_;have e6:=G5.at (by have:=D4.lt;omega) e5;obtain⟨v,hv,hm⟩:=A8 (l:=[D.int 0,.int 0,.int 1400,.int 1400,.int 1401,.int 1]) JK (by simpa using JJ);have hy:∃y:Int,v=.int y/\0<=y/\y<=9999:=by
  simp only[List.mem_cons,List.mem_nil_iff,or_false] at hm;rcases hm with rfl|rfl|rfl|rfl|rfl|rfl<;>exact⟨_,rfl,by decide,by decide⟩
 obtain⟨y,rfl,y0,y1⟩:=hy;refine K0 (a7 e6) hv ?_;walk_at"";refine j8 h4 D5 (by decide) (by decide) λr6 g6 r60 r61 D6 G6=>?_;walk_at"";refine j8 h4 D6 (by decide) (by decide) λr7 g7 r70 r71 D7 G7=>?_;walk_at"";exact h ⟨1+r6,lm,1+r7,um,y⟩ _ (kR.mk' (by omega) (by omega) (by omega) (by omega) y0 y1 gl gu ll lu) D7 (G1.trans (G2.trans (G3.trans (G4.trans ((Gr.snoc _ _ _).trans (G5.trans (G6.trans G7)))))))
end
def Zb:aM:=⟨1,1,(.seq (.ifs (.cV (.dU (.call 1 (dN aq (aQ 1) (aQ 9))))) (.seq (.raise "BadAnvils" (cC (bR "there are from one to nine anvils"))) .pass) .pass) .pass)⟩
def BR:aM:=⟨2,2,(.seq (.ifs (cw .Eq (.call 4 (cS aq (aQ 12))) (aQ 7)) (.seq (.ret (.call 5 (cC aq))) .pass) .pass) (.seq (.ret (bJ (.bin .Sub) (.call 4 (cS aq (bJ (.bin .Add) aE (aQ 4)))) (aQ 2))) .pass))⟩
def NK:aM:=⟨2,2,(.seq (.ret (cj .all (.comp [1] 3 (.one 2) (.eR aq) .no (bJ (.cmp .In) aP aq)))) .pass)⟩
def N9:aM:=⟨1,1,(.seq (.ifs (.cV (.dU (.call 12 (cC aq)))) (.seq (.raise "BadCoin" (cC (bR "it is no coin"))) .pass) .pass) .pass)⟩
def Z2:aM:=⟨1,2,(.seq (.ifs (cw .Gt (cj .len aq) (aQ 9)) (.seq (.raise "TooMany" (cC (bR "at most nine coins are asked about at once"))) .pass) .pass) (.seq (.eM (.one 1) (.eR aq) (.seq (.expr (.call 39 (cC aE))) .pass)) .pass))⟩
def T8:aM:=⟨1,1,(.seq (.ifs (cw .NotIn aq (.lit (.tup [(.str "lower"),(.str "upper")]))) (.seq (.raise "BadSide" (cC (bR "a side is lower or upper"))) .pass) .pass) .pass)⟩
def Bm:aM:=⟨1,1,(.seq (.expr (.call 40 (cC aq))) (.seq (.ret (bJ .mF (.lit (.tup [(.tup [(.str "lower"),(.int 0)]),(.tup [(.str "upper"),(.int 2)])])) aq)) .pass))⟩
noncomputable abbrev Jf(T:Nat->Option aM):Prop:=T 18=some Z2/\T 39=some N9
noncomputable abbrev CO(T:Nat->Option aM):Prop:=T 19=some Bm/\T 40=some T8
structure Ex(g g':G):Prop where
 len:g.length<=g'.length
 old:∀i,i<g.length->g'[i]?=g[i]?
theorem Ex.refl(g:G):Ex g g:=⟨aj _,λ_ _=>rfl⟩
theorem Ex.trans{g g1 g2:G}(a:Ex g g1)(b:Ex g1 g2):Ex g g2:=⟨aJ a.len b.len,λi h=>(b.old i (ak h a.len)).trans (a.old i h)⟩
theorem Ex.snoc(g:G)(o:O):Ex g (g++[o]):=⟨by simp,λi h=>aH h⟩
theorem Ex.at(h:Ex g g')(e:g[i]?=some o):g'[i]?=some o:=(h.old i (m8 e)).trans e
theorem Ex.gr(h:Ex g g')(d:Nat):Gr d g g':=⟨h.len,λi _ h2=>h.old i h2⟩
theorem Ex.draw{d:Nat}(h:Ex g g')(D0:k9 g d):k9 g' d:=by
 obtain⟨s,p,b,r,xs,e1,e2,q⟩:=D0.ex;exact⟨s,p,b,r,xs,h.at e1,h.at e2,q⟩
inductive o8(g:G):Nat->D->D->Prop
 |bf {n:Nat}:o8 g n .bf .bf
 |bl {n:Nat} (b:Bool):o8 g n (.bl b) (.bl b)
 |int {n:Nat} (i:Int):o8 g n (.int i) (.int i)
 |str {n:Nat} (x:Str):o8 g n (.str x) (.str x)
 |tup {n:Nat} {l m:List D} (hl:l.length=m.length) (h:∀(i:Nat) x y,l[i]?=some x->m[i]?=some y->o8 g n x y) (hz:m.length<=1000):o8 g (n+1) (.tup l) (.tup m)
 |lst {n a b:Nat} {l m:List D} (ha:g[a]?=some (.lst l)) (hb:g[b]?=some (.lst m)) (hl:l.length=m.length) (h:∀(i:Nat) x y,l[i]?=some x->m[i]?=some y->o8 g n x y) (hz:m.length<=1000):o8 g (n+1) (.ref a) (.ref b)
theorem o8.ex(e:Ex g g'){x:D}(h:o8 g n x y):o8 g' n x y:=by
 induction h with
 |bf=>exact .bf
 |bl b=>exact .bl b
 |int i=>exact .int i
 |str x=>exact .str x
 |tup hl h hz ih=>exact .tup hl ih hz
 |lst ha hb hl h hz ih=>exact .lst (e.at ha) (e.at hb) hl ih hz
section
variable{T:Nat->Option aM}
theorem IU(h6:T 6=some vq){i:Int}(h:Q (.bl true) g):a8 T (k+1) 6 [.int i] g Q E:=by
 refine call_of h6 rfl ?_;dsimp[vq,a9,List.replicate];walk_at"";refine gi (c:="int") (b:=true) (by decide) rfl ?_;walk_at"";refine gi (c:="bool") (b:=false) (by decide) rfl ?_;walk_at"";exact h
def HF:MS:=match E9.body with
 |.seq _ (.seq _ (.seq _ (.seq _ (.seq _ b))))=>b
 |x=>x
theorem S0(h6:T 6=some vq)(h7:T 7=some E9):∀(n:Nat) {k:Nat} {g:G} {x y:D} {Q:KD} {E:KX},o8 g n x y->(∀g',Ex g g'->Q (.bl true) g')->a8 T (k+n+2) 7 [x,y] g Q E:=by
 have sR:∀(n:Nat),(∀{k:Nat} {g:G} {x y:D} {Q:KD} {E:KX},o8 g n x y->(∀g',Ex g g'->Q (.bl true) g')->a8 T (k+n+2) 7 [x,y] g Q E) ->
   ∀{k:Nat} {g:G} {x y:D} {l m:List D} {Q:KD} {E:KX},(∀g',Ex g g'->F7 g' x=some l)->(∀g',Ex g g'->F7 g' y=some m)->l.length=m.length->m.length<=1000->(∀(i:Nat) x y,l[i]?=some x->m[i]?=some y->o8 g n x y)->(∀g',Ex g g'->Q (.bl true) g') ->
   wpS (a8 T (k+n+2)) HF ⟨λ_ g'=>Q .bf g',Q,λ_ _=>False,λ_ _=>False⟩ [some x,some y] g E:=by
  intro n ih k g x y l m Q E hx hy hl hz hs hQ;have len:∀(z:D) (l:List D) (g':G) (Q':KD),F7 g' z=some l->Q' (.int l.length) g'->cK .len [z] g' Q':=λz l g' Q' e q=>⟨_,_,⟨rfl,.inl ⟨z,l,rfl,e,rfl⟩⟩,q⟩
  dsimp[HF,E9];refine Fp (Fo (Ft (oo (xA (w_var rfl (len _ _ _ _ (hx g (Ex.refl g)) ?_))))));refine xA (w_var rfl (len _ _ _ _ (hy g (Ex.refl g)) ?_));refine EL ?_;rw[hl,aL rfl];walk_at"";refine U4 (b0 T _) (xu (b0 T _) ?_);refine xA (w_var rfl (len _ _ _ _ (hy g (Ex.refl g)) ?_));refine⟨_,rfl,by omega,by omega,A4 0 m.length,λi ys Z g'=>∃z w,ys=List.replicate i (.bl true)/\Z=[some y,some x,z,w]/\Ex g g',by rw[vk];exact hz,λi ys Z g' p=>⟨S1,?_⟩,⟨none,none,rfl,rfl,Ex.refl g⟩,λi z ys Z g' hz p=>?_,λys Z g' p=>?_⟩
  ·obtain⟨z,w,rfl,_⟩:=p;simp
  ·obtain⟨z,w,rfl,rfl,e⟩:=p;obtain⟨hi,rfl⟩:=vj hz;have h1:l[i]?=some l[i]:=aC (by omega);have h2:m[i]?=some m[i]:=aC hi;have a1:iY l (0+(i:Int))=some l[i]:=by rw[sH];exact ve h1
   have a2:iY m (0+(i:Int))=some m[i]:=by rw[sH];exact ve h2
   show dw _ _ _ _ _ _;refine Q7 (js (Cr (sy (oo (w_var rfl (w_var rfl ⟨_,_,⟨rfl,.inl ⟨_,l,_,rfl,hx g' e,a1⟩⟩,?_⟩))))));refine sy (oo (w_var rfl (w_var rfl ⟨_,_,⟨rfl,.inl ⟨_,m,_,rfl,hy g' e,a2⟩⟩,?_⟩)));refine BZ (ih ((hs i _ _ h1 h2).ex e) λg2 e2=>?_);exact⟨_,_,by rw[List.replicate_succ'],rfl,e.trans e2⟩
  ·obtain⟨z,w,rfl,rfl,e⟩:=p;refine BJ (a7 c7) (v:=true) ?_ (hQ _ (e.trans (Ex.snoc _ _)));have:List.replicate (A4 0 m.length).length (D.bl true)=(List.replicate (A4 0 m.length).length true).map D.bl:=by simp
   rw[this,Bi];simp
 intro n
 induction n with
 |zero =>
  intro k g x y Q E h hQ;have h0:=hQ g (Ex.refl g);cases h with
  |bf =>
   refine call_of h7 rfl ?_;dsimp[E9,a9,List.replicate];walk_at"";exact h0
  |bl b=>exact HG h7 (by simpa using h0)
  |int i =>
   refine call_of h7 rfl ?_;dsimp[E9,a9,List.replicate];walk_at""
   try show wpS _ _ _ _ _ _
   walk_at"";refine gi (c:="bool") (b:=false) (by decide) rfl ?_;walk_at"";refine gi (c:="int") (b:=true) (by decide) rfl ?_;walk_at"";refine IU h6 ?_;walk_at"";simpa using h0
  |str x =>
   refine call_of h7 rfl ?_;dsimp[E9,a9,List.replicate];walk_at""
   try show wpS _ _ _ _ _ _
   walk_at"";refine gi (c:="bool") (b:=false) (by decide) rfl ?_;walk_at"";refine gi (c:="int") (b:=false) (by decide) rfl ?_;walk_at"";refine gi (c:="str") (b:=true) (by decide) rfl ?_;walk_at"";refine gi (c:="str") (b:=true) (by decide) rfl ?_;walk_at"";simpa using h0
 |succ n ih =>
  intro k g x y Q E h hQ;have h0:=hQ g (Ex.refl g);cases h with
  |bf =>
   refine call_of h7 rfl ?_;dsimp[E9,a9,List.replicate];walk_at"";exact h0
  |bl b=>exact HG h7 (by simpa using h0)
  |int i =>
   refine call_of h7 rfl ?_;dsimp[E9,a9,List.replicate];walk_at""
   try show wpS _ _ _ _ _ _
   walk_at"";refine gi (c:="bool") (b:=false) (by decide) rfl ?_;walk_at"";refine gi (c:="int") (b:=true) (by decide) rfl ?_;walk_at"";refine IU h6 ?_;walk_at"";simpa using h0
  |str x =>
   refine call_of h7 rfl ?_;dsimp[E9,a9,List.replicate];walk_at""
   try show wpS _ _ _ _ _ _
   walk_at"";refine gi (c:="bool") (b:=false) (by decide) rfl ?_;walk_at"";refine gi (c:="int") (b:=false) (by decide) rfl ?_;walk_at"";refine gi (c:="str") (b:=true) (by decide) rfl ?_;walk_at"";refine gi (c:="str") (b:=true) (by decide) rfl ?_;walk_at"";simpa using h0
  |@tup _ l m hl hs hz =>
   refine call_of h7 rfl ?_;have body:=sR n ih (k:=k) (x:=.tup l) (y:=.tup m) (E:=E) (λ_ _=>rfl) (λ_ _=>rfl) hl hz hs hQ;dsimp[E9,a9,List.replicate];walk_at""
   try show wpS _ _ _ _ _ _
   walk_at"";refine gi (c:="bool") (b:=false) (by decide) rfl ?_;walk_at"";refine gi (c:="int") (b:=false) (by decide) rfl ?_;walk_at"";refine gi (c:="str") (b:=false) (by decide) rfl ?_;walk_at"";refine gi (c:="tuple") (b:=true) (by decide) rfl ?_;walk_at"";refine gi (c:="tuple") (b:=true) (by decide) rfl ?_;walk_at"";refine fj rfl ?_;walk_at"";refine gi (c:="list") (b:=false) (by decide) rfl ?_;walk_at"";refine gi (c:="list") (b:=false) (by decide) rfl ?_;walk_at"";refine fj rfl (Cs ?_);exact body
  |@lst _ a b l m ha hb hl hs hz =>
   refine call_of h7 rfl ?_;have body:=sR n ih (k:=k) (x:=.ref a) (y:=.ref b) (E:=E) (λg' e=>a7 (e.at ha)) (λg' e=>a7 (e.at hb)) hl hz hs hQ;have ta:∀c,qx g (.ref a) c=some (c=="list"):=λc=>by simp only[qx,ha]
   have tb:∀c,qx g (.ref b) c=some (c=="list"):=λc=>by simp only[qx,hb]
   dsimp[E9,a9,List.replicate];walk_at""
   try show wpS _ _ _ _ _ _
   walk_at"";refine gi (c:="bool") (b:=false) (by decide) (tb _) ?_;walk_at"";refine gi (c:="int") (b:=false) (by decide) (tb _) ?_;walk_at"";refine gi (c:="str") (b:=false) (by decide) (tb _) ?_;walk_at"";refine gi (c:="tuple") (b:=false) (by decide) (tb _) ?_;walk_at"";refine gi (c:="tuple") (b:=false) (by decide) (ta _) ?_;walk_at"";refine fj rfl ?_;walk_at"";refine gi (c:="list") (b:=true) (by decide) (tb _) ?_;walk_at"";refine gi (c:="list") (b:=true) (by decide) (ta _) ?_;walk_at"";refine fj rfl (Cs ?_);exact body
end
theorem Ex.FI(h:Gr g.length g g'):Ex g g':=⟨h.len,λi hi=>h.old i (by omega) hi⟩
section
variable{T:Nat->Option aM}{d:Nat}
theorem Qb(hx:PyData.strOk x=true)(h:kb (decide (x="lower")||decide (x="upper"))):pR g (.str x) (.tup [.str "lower",.str "upper"]) kb:=by
 refine⟨_,.inr ⟨_,[.str "lower",.str "upper"],.str x,rfl,rfl,rfl,by simp only[PyData.canLayAll0,PyData.canLay0,Bool.and_true];decide +kernel,by simp only[PyData.canLay0];exact hx,rfl⟩,?_⟩;have e:∀y:Str,PyData.eqv (.str y) (.str x)=decide (x=y):=λy=>by
  simp only[PyData.eqv];rw[bG,gc,cc];exact eq_comm
 simp only[List.any_cons,List.any_nil,Bool.or_false,e];exact h
theorem F8(Ln:T 40=some T8)(ho:PyData.strOk x=true)(h1:x="lower"\/x="upper"->Q .bf g)(h3:x≠"lower"->x≠"upper"->E ⟨"BadSide"⟩ g):a8 T (k+1) 40 [.str x] g Q E:=by
 refine call_of Ln rfl ?_;dsimp[T8,a9,List.replicate];walk_at"";refine J8 (Qb ho ?_);walk_at"";by_cases e:x="lower"\/x="upper"
 ·refine fj (by rw[Bool.not_eq_false',eJ,cc,cc];exact e) ?_;walk_at"";exact h1 e
 ·refine fm (by rw[Bool.not_eq_true',Bool.or_eq_false_iff,qU,qU];exact not_or.mp e) ?_;walk_at"";exact h3 (λz=>e (.inl z)) (λz=>e (.inr z))
theorem O7(lz:CO T)(ho:PyData.strOk x=true)(h1:x="lower"->Q (.int 0) g)(h2:x="upper"->Q (.int 2) g)(h3:x≠"lower"->x≠"upper"->E ⟨"BadSide"⟩ g):a8 T (k+2) 19 [.str x] g Q E:=by
 refine call_of lz.1 rfl ?_;dsimp[Bm,a9,List.replicate];walk_at"";refine F8 lz.2 ho (λhx=>?_) h3;walk_at"";by_cases e1:x="lower"
 ·have el:R0 [.tup [.str "lower",.int 0],.tup [.str "upper",.int 2]] x=some (.int 0):=by simp[R0,e1]
  refine EU el ?_;exact h1 e1
 ·have e2:x="upper":=hx.resolve_left e1;have el:R0 [.tup [.str "lower",.int 0],.tup [.str "upper",.int 2]] x=some (.int 2):=by simp[R0,e1];simp[e2]
  refine EU el ?_;exact h2 e2
def CB(c:c8):Prop:=c.lm.length<=8/\c.um.length<=8
theorem WG(h1:NF T)(h2:T 2=some K7)(qe:T 12=some C9)(rF:Jf T)(ha:g[a]?=some (.lst (cs.map c8.d)))(hz:cs.length<=1000)(hm:9<cs.length->E ⟨"TooMany"⟩ g)(hb:cs.length<=9->cs.all k8=false->E ⟨"BadCoin"⟩ g)(h:cs.length<=9->cs.all k8=true->Q .bf g):a8 T (k+6) 18 [.ref a] g Q E:=by
 refine call_of rF.1 rfl ?_;dsimp[Z2,a9,List.replicate];walk_at"";rw[ao];refine if2 (λc=>?_) (λc=>?_)
 ·walk_at"";exact hm (by omega)
 have h9:cs.length<=9:=by omega
 walk_at"";refine qQ (b0 T _) (km (b0 T _) ?_);walk_at"";refine⟨a,_,rfl,a7 ha,cs.map c8.d,λi Z g'=>∃z,Z=[some (.ref a),z]/\g'=g/\(cs.take i).all k8=true,λi Z g' p=>?_,⟨none,rfl,rfl,by simp⟩,λi x Z g' hx p=>?_,λZ g' p=>?_⟩
 ·obtain⟨z,rfl,rfl,_⟩:=p;exact w6 (a7 ha)
 ·obtain⟨z,rfl,rfl,hg⟩:=p;rw[aB,ae] at hx;obtain⟨c,hc,rfl⟩:=hx;refine p6 ?_
  try show wpS _ _ _ _ _ _
  walk_at"";refine call_of rF.2 rfl ?_;dsimp[N9,a9,List.replicate];walk_at"";refine X2 h1 h2 qe ?_;walk_at"";cases e:k8 c with
  |true =>
   walk_at"";refine⟨_,rfl,rfl,?_⟩;rw[cE,hc];simp[hg,e]
  |false =>
   refine FD ?_;walk_at"";refine hb h9 ?_;rw[List.all_eq_false];exact⟨c,bg hc,by rw[e];decide⟩
 ·obtain⟨z,rfl,rfl,hg⟩:=p;rw[ao,cL] at hg;exact h h9 hg
end
section
variable{T:Nat->Option aM}{d:Nat}
theorem Zi(h4:T 4=some M6)(h5:T 5=some qz)(zW:T 14=some Y0)(hB:CB c)(D0:k9 g d)(h:∀(c':c8) g',CB c'->k9 g' d->Gr d g g'->Q c'.d g'):a8 T (k+3) 14 [.ref d,c.d] g Q E:=by
 refine call_of zW rfl ?_;dsimp[Y0,a9,List.replicate,c8.d];walk_at"";refine j8 h4 D0 (by decide) (by decide) λway g1 _ _ D1 G1=>?_;walk_at"";refine j8 h4 (D1.snoc _) (by decide) (by decide) λr g2 r0 r1 D2 G2=>?_;have e2:=G2.at (i:=g1.length) (by have:=D1.lt;omega) (o:=.lst ([[1,0],[3,3],[8],[-1,2],[0,9],[7,10 ^ 20]].map λl=>D.tup (l.map D.int))) (by simp);obtain⟨v,hv,hm⟩:=A8 (l:=[[1,0],[3,3],[8],[-1,2],[0,9],[7,10 ^ 20]].map λl=>D.tup (l.map D.int)) r0 (by simpa using r1);obtain⟨odd,ho,rfl⟩:=au.mp hm;have tK:odd.length<=8:=by
  simp only[List.mem_cons,List.mem_nil_iff,or_false] at ho;rcases ho with rfl|rfl|rfl|rfl|rfl|rfl<;>decide
 refine K0 (a7 e2) hv ?_;walk_at"";refine Cf h4 h5 D2 λf g3 D3 G3=>?_;walk_at"";refine j8 h4 (D3.snoc _) (by decide) (by decide) λr' g4 JR JQ D4 G4=>?_;have e4:=G4.at (i:=g3.length) (by have:=D3.lt;omega) (o:=.lst ([0,100,-1,f].map D.int)) (by simp);obtain⟨v',tE,lg⟩:=A8 (l:=[0,100,-1,f].map D.int) JR (by simpa using JQ);obtain⟨num,_,rfl⟩:=au.mp lg;refine K0 (a7 e4) tE ?_;have G:Gr d g g4:=G1.trans ((Gr.snoc _ _ _).trans (G2.trans (G3.trans ((Gr.snoc _ _ _).trans G4))));walk_at"";refine if2 (λ_=>?_) (λ_=>?_)
 ·walk_at"";exact h ⟨num,c.lm,c.up,c.um,c.yr⟩ g4 hB D4 G
 walk_at"";refine if2 (λ_=>?_) (λ_=>?_)
 ·walk_at"";exact h ⟨c.lo,odd,c.up,c.um,c.yr⟩ g4 ⟨tK,hB.2⟩ D4 G
 walk_at"";refine if2 (λ_=>?_) (λ_=>?_)
 ·walk_at"";exact h ⟨c.lo,c.lm,num,c.um,c.yr⟩ g4 hB D4 G
 walk_at"";refine if2 (λ_=>?_) (λ_=>?_)
 ·walk_at"";exact h ⟨c.lo,c.lm,c.up,odd,c.yr⟩ g4 ⟨hB.1,tK⟩ D4 G
 walk_at"";refine if2 (λ_=>?_) (λ_=>?_)
 ·walk_at"";refine Cf h4 h5 D4 λf' g5 D5 G5=>?_;walk_at"";refine j8 h4 (D5.snoc _) (by decide) (by decide) λr'' g6 yo yn D6 G6=>?_;have e6:=G6.at (i:=g5.length) (by have:=D5.lt;omega) (o:=.lst ([-1,10000,9999,f'].map D.int)) (by simp);obtain⟨v'',yK,yU⟩:=A8 (l:=[-1,10000,9999,f'].map D.int) yo (by simpa using yn);obtain⟨yq,_,rfl⟩:=au.mp yU;refine K0 (a7 e6) yK ?_;walk_at"";exact h ⟨c.lo,c.lm,c.up,c.um,yq⟩ g6 hB D6 (G.trans (G5.trans ((Gr.snoc _ _ _).trans G6)))
 walk_at"";exact h c g4 hB D4 G
end
def K5(f:Int)(c:c8):Int:=if f=0 then c.lo else c.up
theorem uX(hf:f=0\/f=2)(c:c8):iY [D.int c.lo,D.tup (c.lm.map .int),D.int c.up,D.tup (c.um.map .int),D.int c.yr] f=some (.int (K5 f c)):=by
 rcases hf with rfl|rfl<;>rfl
def xN:aM:=⟨1,1,(.seq (.ifs (cw .Eq (.call 4 (cS aq (aQ 14))) (aQ 9)) (.seq (.ret (bp (.prim .lst (lQ (bR "") (bR "Lower") (bR "both") (bR "upper "))) (.call 4 (cS aq (aQ 4))))) .pass) .pass) (.seq (.ret (bp (bJ .lst (bR "lower") (bR "upper")) (.call 4 (cS aq (aQ 2))))) .pass))⟩
section
variable{T:Nat->Option aM}{d:Nat}
theorem OR(h4:T 4=some M6)(zt:T 29=some xN)(D0:k9 g d)(h:∀x g',PyData.strOk x=true->k9 g' d->Gr d g g'->Q (.str x) g'):a8 T (k+2) 29 [.ref d] g Q E:=by
 refine call_of zt rfl ?_;dsimp[xN,a9,List.replicate];walk_at"";refine j8 h4 D0 (by decide) (by decide) λr g1 _ _ D1 G1=>?_;walk_at"";refine if2 (λc=>?_) (λc=>?_)
 ·walk_at"";refine j8 h4 (D1.snoc _) (by decide) (by decide) λr g2 r0 r1 D2 G2=>?_;have e2:=G2.at (i:=g1.length) (by have:=D1.lt;omega) (o:=.lst (([("":Str),("Lower":Str),("both":Str),("upper ":Str)]:List Str).map D.str)) (by simp);obtain⟨v,hv,hm⟩:=A8 (l:=([("":Str),("Lower":Str),("both":Str),("upper ":Str)]:List Str).map D.str) r0 (by simpa using r1);obtain⟨x,hx,rfl⟩:=au.mp hm;refine K0 (a7 e2) hv ?_;walk_at"";refine h x g2 ?_ D2 (G1.trans ((Gr.snoc _ _ _).trans G2));simp only[List.mem_cons,List.mem_nil_iff,or_false] at hx;rcases hx with rfl|rfl|rfl|rfl<;>decide +kernel
 ·walk_at"";refine j8 h4 (D1.snoc _) (by decide) (by decide) λr g2 r0 r1 D2 G2=>?_;have e2:=G2.at (i:=g1.length) (by have:=D1.lt;omega) (o:=.lst (([("lower":Str),("upper":Str)]:List Str).map D.str)) (by simp);obtain⟨v,hv,hm⟩:=A8 (l:=([("lower":Str),("upper":Str)]:List Str).map D.str) r0 (by simpa using r1);obtain⟨x,hx,rfl⟩:=au.mp hm;refine K0 (a7 e2) hv ?_;walk_at"";refine h x g2 ?_ D2 (G1.trans ((Gr.snoc _ _ _).trans G2));simp only[List.mem_cons,List.mem_nil_iff,or_false] at hx;rcases hx with rfl|rfl<;>decide +kernel
end
theorem Y7(ha:g[a]?=some (.lst [.str "lower",.str "upper"]))(hx:PyData.strOk x=true)(h:kb (decide (x="lower")||decide (x="upper"))):pR g (.str x) (.ref a) kb:=by
 refine⟨_,.inr ⟨_,[.str "lower",.str "upper"],.str x,a7 ha,rfl,rfl,by simp only[PyData.canLayAll0,PyData.canLay0,Bool.and_true];decide +kernel,by simp only[PyData.canLay0];exact hx,rfl⟩,?_⟩;have e:∀y:Str,PyData.eqv (.str y) (.str x)=decide (x=y):=λy=>by
  simp only[PyData.eqv];rw[bG,gc,cc];exact eq_comm
 simp only[List.any_cons,List.any_nil,Bool.or_false,e];exact h
theorem a25{l:List D}(ha:g[a]?=some (.lst l))(hb:g[b]?=some (.lst l))(h:∀x∈l,(∃i,x=.int i)\/∃y,x=.str y)(hz:l.length<=1000):o8 g 1 (.ref a) (.ref b):=by
 refine .lst ha hb rfl (λi x y hx hy=>?_) hz;rw[hx] at hy;cases hy;rcases h x (bg hx) with⟨j,rfl⟩|⟨y,rfl⟩
 ·exact .int _
 ·exact .str _
def cD:c8:=⟨0,[],0,[],0⟩
noncomputable abbrev uI(cs:List c8)(i:Nat):c8:=cs.getD i cD
theorem wC(h:cs[i]?=some c):uI cs i=c:=by simp[uI,List.getD,h]
inductive RW where
 |eN|lower|upper
def RW.s:RW->Str
 |.eN=>"coin"
 |.lower=>"lower"
 |.upper=>"upper"
def meant(cs:List c8)(w:RW)(x:Int)(i:Nat):Bool:=match w with
 |.eN=>decide ((i:Int)=x)
 |.lower=>decide ((uI cs i).lo=x)
 |.upper=>decide ((uI cs i).up=x)
def rg(cs:List c8)(w:RW)(x:Int):List Nat:=(List.range cs.length).filter (meant cs w x)
def b7(l:List Nat):List D:=l.map λ(i:Nat)=>D.int i
def Yw:aM:=⟨2,2,(.seq (.ifs (.cV (.dU (.call 1 (dN aE (aQ 0) (bJ (.bin .Sub) (cj .len aq) (aQ 1)))))) (.seq (.raise "NoPlace" (cC (bR "no coin has that place"))) .pass) .pass) .pass)⟩
def X9:aM:=⟨3,4,(.seq (.ifs (.cV (.dU (.call 38 (cC aP)))) (.seq (.ret (.prim .lst .nil)) .pass) .pass) (.seq (.ifs (cw .Eq aE (bR "coin")) (.seq (.ret (.comp [2] 3 (.one 2) (.fF (cj .len aq)) (cw .Eq aP aq) aP)) .pass) .pass) (.seq (.set 3 (.call 19 (cC aE))) (.seq (.ret (.comp [3,2] 5 (.many [3,4]) (.kl aq) (cw .Eq (bp cB aq) aE) bh)) .pass))))⟩
def AK:aM:=⟨2,3,(.seq (.expr (.call 18 (cC aq))) (.seq (.set 2 (.call 19 (cC aE))) (.seq (.ret (.gJ [2] 3 (.one 2) (.eR aq) .no (bp aP aq))) .pass)))⟩
def a21:aM:=⟨2,5,(.seq (.lF (.many [2,3,4]) aE) (.seq (.ifs (.gC (cw .NotIn aP (.lit (.tup [(.str "coin"),(.str "lower"),(.str "upper")]))) (cw .Eq bh cB)) (.seq (.ret (.lit (.bl false))) .pass) .pass) (.seq (.ret (.dH (bJ (.cmp .NotEq) (.call 74 (dN aq aP bh)) (.prim .lst .nil)) (bJ (.cmp .NotEq) (.call 74 (dN aq aP cB)) (.prim .lst .nil)))) .pass)))⟩
def Yx:aM:=⟨2,4,(.seq (.eM (.many [2,3]) (.kl aE) (.seq (.ifs (.cV (.dU (.call 88 (cS aq bh)))) (.seq (.raise "BadRule" (cC (.prim .mG (dN (bR "rule ") (cj .fv aP) (bR " is none for these coins"))))) .pass) .pass) .pass)) .pass)⟩
def Qj:aM:=⟨1,1,(.seq (.ret (cj .sum (.comp [] 2 (.one 1) (.eR aq) .no (bJ (.bin .LShift) (aQ 1) aE)))) .pass)⟩
def a19:aM:=⟨2,2,(.seq (.ret (bJ (.bin .BitOr) aq (bJ (.bin .LShift) (aQ 1) aE))) .pass)⟩
def a20:aM:=⟨2,4,(.seq (.eM (.one 2) (.eR (.lit (.tup [(.str "lower"),(.str "upper")]))) (.seq (.set 3 (.call 19 (cC aP))) (.seq (.ifs (.dH (cw .Eq (bp aq bh) (bp aE bh)) (.cV (.dU (.call 15 (cS (bp aq (bJ (.bin .Add) bh (aQ 1))) (bp aE (bJ (.bin .Add) bh (aQ 1)))))))) (.seq (.ret (.lit (.bl true))) .pass) .pass) .pass))) (.seq (.ret (.lit (.bl false))) .pass))⟩
def Vm:aM:=⟨2,2,(.seq (.ret (.chain .Lt .Lt (aQ 0) (bp aE (aQ 4)) (bp aq (aQ 4)))) .pass)⟩
def YC:aM:=⟨1,1,(.seq (.ret (.comp [0] 3 (.one 2) (.eR aq) .no (.call 90 (cC (.comp [2] 4 (.many [2,3]) (.kl aq) (.dU (.call 92 (cS bh aq))) aP))))) .pass)⟩
def Zc:aM:=⟨1,1,(.seq (.ret (.comp [0] 3 (.one 2) (.eR aq) .no (.call 90 (cC (.comp [2] 4 (.many [2,3]) (.kl aq) (.dU (.call 93 (cS bh aq))) aP))))) .pass)⟩
def XD:aM:=⟨1,1,(.seq (.ret (.comp [0] 3 (.one 2) (.eR (.call 20 (cS aq (bR "lower")))) .no (.call 90 (cC (.call 74 (dN aq (bR "lower") aP)))))) .pass)⟩
def Wx:aM:=⟨2,8,(.seq (.set 2 (.comp [] 2 (.one 1) (.eR aq) .no (.prim .lst .nil))) (.seq (.eM (.many [3,4,5]) (.eR aE) (.seq (.set 6 (.call 90 (cC (.call 74 (dN aq bh cB))))) (.seq (.eM (.one 7) (.eR (.call 74 (dN aq bh dR))) (.seq (.ifs (cw .NotIn fE (bp aP jq)) (.seq (.expr (.eL .append (bp aP jq) (cC fE))) .pass) .pass) .pass)) .pass))) (.seq (.ret aP) .pass)))⟩
def Yv:aM:=⟨3,3,(.seq (.expr (.call 18 (cC aq))) (.seq (.expr (.call 42 (cC aE))) (.seq (.expr (.call 89 (cS aq aP))) .pass)))⟩
def a22:aM:=⟨3,3,(.seq (.expr (.call 98 (dN aq aE aP))) (.seq (.ret (.make "Bounds" 113 (dN aq aE aP))) .pass))⟩
def XE:aM:=⟨3,5,(.seq (.set 3 (.call 91 (cS aE aP))) (.seq (.set 4 (bJ (.bin .Sub) (cj (.fld "full") aq) aE)) (.seq (.ret (cj .len (.comp [4,3] 4 (.one 3) (.eR (cj (.fld "lower_dies") aq)) (.dH (.dU (bJ (.bin .BitAnd) bh aE)) (.dU (bJ (.bin .BitAnd) bh aq))) bh))) .pass)))⟩
def XG:aM:=⟨3,3,(.seq (.ifs (.dU (bJ (.bin .BitAnd) aE (bp (cj (.fld "worn_by_place") aq) aP))) (.seq (.ret (bR "wear")) .pass) .pass) (.seq (.ifs (.dU (bJ (.bin .BitAnd) aE (bp (cj (.fld "later_by_place") aq) aP))) (.seq (.ret (bR "year")) .pass) .pass) (.seq (.ifs (cw .Gt (.call 100 (dN aq aE aP)) (cj (.fld "room") aq)) (.seq (.ret (bR "anvil")) .pass) .pass) (.seq (.ifs (.cV (.dU (cj .all (.comp [1] 3 (.one 2) (.eR (bp (cj (.fld "needed_by_place") aq) aP)) .no (bJ (.bin .BitAnd) aq aP))))) (.seq (.ret (bR "rule")) .pass) .pass) (.seq (.ret (.lit .bf)) .pass)))))⟩
def Yu:aM:=⟨4,4,(.seq (.fT "size" ["Bounds"] aq (cj .len aE)) (.seq (.fT "full" ["Bounds"] aq (bJ (.bin .Sub) (bJ (.bin .LShift) (aQ 1) (cj .len aE)) (aQ 1))) (.seq (.fT "room" ["Bounds"] aq aP) (.seq (.fT "worn_by_place" ["Bounds"] aq (.call 94 (cC aE))) (.seq (.fT "later_by_place" ["Bounds"] aq (.call 95 (cC aE))) (.seq (.fT "lower_dies" ["Bounds"] aq (.call 96 (cC aE))) (.seq (.fT "needed_by_place" ["Bounds"] aq (.call 97 (cS aE bh))) .pass)))))))⟩
section
variable{t:MT}{it c elt:ME}{d6:List Nat}
theorem FQ(hP:j5 P)(Sh:S->Prop)(p:Nat->Bool)(w:Nat->D){l:List D}{k:IK}(hk:∀g',Ex g g'->k.Is l g')(hl:l.length<=1000)(h0:Sh (O8 Z d6 n))(hs:∀i d Z g',l[i]?=some d->Ex g g'->Sh Z->jK t d Z λcq=>dw P c cq g' (λb g3=>b=p i/\Ex g g3/\if b=true then aS P elt cq g3 (λy g4=>y=w i/\Ex g g4/\Sh cq) je else Sh cq) je)(hd:∀g',Ex g g'->Q (.ref g'.length) (g'++[.lst (((List.range l.length).filter p).map w)]))(hi:∀R:IK->G->Prop,R k g->gH P it Z g R E):aS P (.comp d6 n t it c elt) Z g Q E:=by
 refine U4 hP (hi _ ?_);refine⟨l,λi ys Z g'=>Ex g g'/\ys=((List.range i).filter p).map w/\Sh Z,hl,λi ys Z g' q=>⟨hk _ q.1,?_⟩,⟨Ex.refl _,rfl,h0⟩,λi x ys Z g' hx q=>?_,λys Z g' q=>?_⟩
 ·obtain⟨_,rfl,_⟩:=q;rw[ao];exact aJ (dI _ _) (by simp)
 ·obtain⟨e1,rfl,sh⟩:=q;refine A2 (λcq q=>n6 hP c _ _ _ _ _ _ (λb g3 q=>?_) (λ_ _ z=>z) q) (hs i x Z g' hx e1 sh);obtain⟨rfl,e3,q⟩:=q;have ef:((List.range (i+1)).filter p).map w=((List.range i).filter p).map w++if p i=true then[w i] else[]:=by
   rw[List.range_succ,cQ,cv]
   congr 1
   cases z:p i<;>simp only[List.filter_cons,z,List.filter_nil]<;>rfl
  cases hp:p i with
  |true =>
   rw[hp] at q ef;rw[aG rfl] at q ⊢;refine b8 hP elt _ _ _ _ _ _ (λy g4 q=>?_) (λ_ _ z=>z) q;obtain⟨rfl,e4,sh⟩:=q;exact⟨e4,by rw[ef];rfl,sh⟩
  |false =>
   rw[hp] at q ef;rw[az (by decide)] at q ⊢;exact⟨e3,by rw[ef];simp,q⟩
 ·obtain⟨e1,rfl,sh⟩:=q;exact hd g' e1
theorem FE(hP:j5 P){l:List D}{o:ME}(hl:d7 g a=some l)(h:∀Q:KD,Q (.ref a) g->aS P o Z g Q E):∀R:IK->G->Prop,R (.lst a) g->gH P (.eR o) Z g R E:=λR r=>km hP (h _ ⟨a,l,rfl,hl,r⟩)
theorem QT{l:List D}{o:ME}(hl:d7 g a=some l)(h:∀Q:KD,Q (.ref a) g->aS P o Z g Q E):∀R:IK->G->Prop,R (.ql a) g->gH P (.kl o) Z g R E:=λR r=>DE (h _ ⟨a,l,rfl,hl,r⟩)
theorem QU(hP:j5 P){j:Nat}{o:ME}(hj:j<=1000)(h:∀Q:KD,Q (.int (j:Nat)) g->aS P o Z g Q E):∀R:IK->G->Prop,R (.fix (A4 0 j)) g->gH P (.fF o) Z g R E:=λR r=>xu hP (h _ ⟨j,rfl,by omega,by omega,by simpa using r⟩)
end
section
variable{T:Nat->Option aM}{d:Nat}
theorem WW(h1:NF T)(lz:CO T)(zq:T 74=some X9){x:Int}(ha:g[a]?=some (.lst (cs.map c8.d)))(hz:cs.length<=1000)(h:∀g' b,Ex g g'->g.length<=b->g'[b]?=some (.lst (b7 (rg cs w x)))->Q (.ref b) g'):a8 T (k+3) 74 [.ref a,.str w.s,.int x] g Q E:=by
 refine call_of zq rfl ?_;dsimp[X9,a9,List.replicate];walk_at"";refine E6 (k:=k+1) h1 ?_;walk_at"";have fld:∀f:Int,(f=0\/f=2)->(∀i c,cs[i]?=some c->meant cs w x i=decide (K5 f c=x))->aS (a8 T (k+2)) (.comp [3,2] 5 (.many [3,4]) (.kl (.var 0)) (.dU (.prim (.cmp .Eq) (.cons (.prim .ix (.cons (.var 4) (.cons (.var 0) .nil))) (.cons (.var 1) .nil)))) (.var 3)) [some (.ref a),some (.str w.s),some (.int x),some (.int f)] g Q E:=λf hf hm=>by
  refine FQ (b0 T _) (λZ=>∃z2 z3 z4,Z=[some (.int f),some (.int x),z2,z3,z4]) (meant cs w x) (λi=>.int (i:Nat)) (l:=qm (cs.map c8.d)) (λg' e=>U' (a7 (e.at ha))) (by rw[Hy];simpa using hz) ⟨none,none,none,rfl⟩ (λi d Z g' hx e sh=>?_) (λg' e=>?_) (QT (a7 ha) λQ q=>w_var (d:=.ref a) rfl q)
  ·obtain⟨z2,z3,z4,rfl⟩:=sh;obtain⟨dd,hd,rfl⟩:=Nn hx;rw[aB,ae] at hd;obtain⟨c,hc,rfl⟩:=hd;refine AQ rfl ?_
   try show dw _ _ _ _ _ _
   walk_at"";refine Q1 (uX hf c) ?_;walk_at"";rw[hm i c hc];refine⟨rfl,e,?_⟩;refine if2 (λ_=>?_) (λ_=>?_)
   ·walk_at"";exact⟨rfl,e,_,_,_,rfl⟩
   ·exact⟨_,_,_,rfl⟩
  ·rw[Hy,ao];exact h _ _ (e.trans (Ex.snoc _ _)) e.len c7
 cases w with
 |eN =>
  refine fm (by decide +kernel) ?_;walk_at"";refine FQ (b0 T _) (λZ=>∃z1 z2,Z=[some (.int x),z1,z2]) (meant cs .eN x) (λi=>.int (i:Nat)) (l:=A4 0 cs.length) (λg' e=>S1) (by rw[vk];exact hz) ⟨none,none,rfl⟩ (λi d Z g' hx e sh=>?_) (λg' e=>?_) (QU (b0 T _) hz λQ q=>?_)
  ·obtain⟨z2,z3,rfl⟩:=sh;obtain⟨hi,rfl⟩:=vj hx;rw[sH];refine p6 ?_
   try show dw _ _ _ _ _ _
   walk_at"";refine⟨rfl,e,?_⟩;refine if2 (λ_=>?_) (λ_=>?_)
   ·walk_at"";exact⟨rfl,e,_,_,rfl⟩
   ·exact⟨_,_,rfl⟩
  ·rw[vk];exact h _ _ (e.trans (Ex.snoc _ _)) e.len c7
  ·walk_at"";rw[ao];exact q
 |lower =>
  refine fj (by decide +kernel) ?_;walk_at"";refine O7 (k:=k) lz (by decide +kernel) (λ_=>?_) (λz=>absurd z (by decide +kernel)) (λz=>absurd rfl z);walk_at"";exact fld 0 (.inl rfl) λi c hc=>by simp only[meant,wC hc];rfl
 |upper =>
  refine fj (by decide +kernel) ?_;walk_at"";refine O7 (k:=k) lz (by decide +kernel) (λz=>absurd z (by decide +kernel)) (λ_=>?_) (λ_ z=>absurd rfl z);walk_at"";exact fld 2 (.inr rfl) λi c hc=>by simp only[meant,wC hc];rfl
end
def T7:aM:=⟨3,3,(.seq (.ret (bJ (.bin .Add) (bJ (.bin .Add) (bJ (.kY false true) aq aE) (cj .tup aP)) (bJ (.kY true false) aq (bJ (.bin .Add) aE (aQ 1))))) .pass)⟩
def Bl:aM:=⟨3,3,(.seq (.ifs (.cV (.dU (.call 74 (dN aq aE aP)))) (.seq (.raise "NoDie" (cC (bR "no coin is of that die"))) .pass) .pass) .pass)⟩
def By:aM:=⟨1,2,(.seq (.set 1 (aQ 1)) (.seq (.iT (cw .In aE aq) (.seq (.jy 1 .iadd (aQ 1)) .pass)) (.seq (.ret aE) .pass)))⟩
def V7:aM:=⟨1,1,(.seq (.fT "held" ["Cabinet"] aq (.prim .T3 .nil)) (.seq (.fT "claims" ["Cabinet"] aq (.prim .T3 .nil)) (.seq (.fT "last_coin" ["Cabinet"] aq (aQ 0)) (.seq (.fT "last_fact" ["Cabinet"] aq (aQ 0)) .pass))))⟩
def A9:aM:=⟨2,2,(.seq (.ifs (.gC (.cV (.dU (.call 38 (cC aE)))) (cw .NotIn aE (cj (.fld "held") aq))) (.seq (.raise "NoCoin" (cC (bR "no coin has that number"))) .pass) .pass) .pass)⟩
def L6:aM:=⟨3,3,(.seq (.expr (.bx "check_number" [("Cabinet",209)] aq (cC aE))) (.seq (.expr (.bx "check_number" [("Cabinet",209)] aq (cC aP))) (.seq (.ifs (cw .Eq aE aP) (.seq (.raise "SameOne" (cC (bR "two unlike coins are asked for"))) .pass) .pass) .pass)))⟩
def L5:aM:=⟨3,4,(.seq (.set 3 (.call 19 (cC aE))) (.seq (.ret (.comp [2,3,0] 5 (.one 4) (.eR (.bx "numbers" [("Cabinet",221)] aq .nil)) (cw .Eq (bp (bp (cj (.fld "held") aP) cB) aE) aq) cB)) .pass))⟩
def O3:aM:=⟨4,6,(.seq (.set 4 (.call 19 (cC aE))) (.seq (.eM (.one 5) (.eR aP) (.seq (.cN (cj (.fld "held") aq) dR (.call 177 (dN (bp (cj (.fld "held") aq) dR) cB bh))) .pass)) .pass))⟩
def M3:aM:=⟨2,2,(.seq (.expr (.call 39 (cC aE))) (.seq (.ifs (cw .Eq (cj .len (cj (.fld "held") aq)) (aQ 9)) (.seq (.raise "Full" (cC (bR "there is no room for one more coin"))) .pass) .pass) (.seq (.jU "last_coin" ["Cabinet"] aq (aQ 1)) (.seq (.cN (cj (.fld "held") aq) (cj (.fld "last_coin") aq) aE) (.seq (.ret (cj (.fld "last_coin") aq)) .pass)))))⟩
def S7:aM:=⟨3,4,(.seq (.set 3 (.bx "coin" [("Cabinet",222)] aq (cC aE))) (.seq (.expr (.call 39 (cC aP))) (.seq (.cN (cj (.fld "held") aq) aE aP) (.seq (.ret bh) .pass))))⟩
def V6:aM:=⟨3,3,(.seq (.expr (.bx "check_pair" [("Cabinet",210)] aq (cS aE aP))) (.seq (.jU "last_fact" ["Cabinet"] aq (aQ 1)) (.seq (.cN (cj (.fld "claims") aq) (cj (.fld "last_fact") aq) (bJ .tup aE aP)) (.seq (.ret (cj (.fld "last_fact") aq)) .pass))))⟩
def K8:aM:=⟨4,5,(.seq (.expr (.call 40 (cC aE))) (.seq (.expr (.call 75 (dN (.bx "coins" [("Cabinet",223)] aq .nil) aE aP))) (.seq (.expr (.call 75 (dN (.bx "coins" [("Cabinet",223)] aq .nil) aE bh))) (.seq (.ifs (cw .Eq aP bh) (.seq (.raise "SameOne" (cC (bR "two unlike dies are asked for"))) .pass) .pass) (.seq (.set 4 (.bx "numbers_of" [("Cabinet",211)] aq (cS aE bh))) (.seq (.expr (.bx "give_die" [("Cabinet",212)] aq (dN aE cB aP))) (.seq (.ret cB) .pass)))))))⟩
def J5:aM:=⟨4,7,(.seq (.expr (.call 40 (cC aE))) (.seq (.expr (.call 75 (dN (.bx "coins" [("Cabinet",223)] aq .nil) aE aP))) (.seq (.set 4 (.bx "numbers_of" [("Cabinet",211)] aq (cS aE aP))) (.seq (.eM (.one 5) (.eR bh) (.seq (.ifs (.gC (.cV (.dU (.call 38 (cC dR)))) (cw .NotIn dR cB)) (.seq (.raise "NoCoin" (cC (bR "no coin of that die has that number"))) .pass) .pass) .pass)) (.seq (.ifs (.gC (cw .NotEq (cj .V8 bh) (cj .len bh)) (cw .In (cj .len bh) (bJ .tup (aQ 0) (cj .len cB)))) (.seq (.raise "BadList" (cC (bR "some coins of the die are asked for, each once, not all of them"))) .pass) .pass) (.seq (.set 6 (.call 194 (cC (.call 20 (cS (.bx "coins" [("Cabinet",223)] aq .nil) aE))))) (.seq (.expr (.bx "give_die" [("Cabinet",212)] aq (dN aE bh fE))) (.seq (.ret fE) .pass))))))))⟩
def O0:aM:=⟨1,1,(.seq (.ret (cj .eK (cj (.fld "held") aq))) .pass)⟩
def O4:aM:=⟨2,2,(.seq (.expr (.bx "check_number" [("Cabinet",209)] aq (cC aE))) (.seq (.ret (bp (cj (.fld "held") aq) aE)) .pass))⟩
def T2:aM:=⟨1,1,(.seq (.ret (.comp [0] 3 (.one 2) (.eR (.bx "numbers" [("Cabinet",221)] aq .nil)) .no (bp (cj (.fld "held") aq) aP))) .pass)⟩
def T1:aM:=⟨1,1,(.seq (.ret (.comp [0] 3 (.one 2) (.eR (cj .eK (cj (.fld "claims") aq))) .no (.prim .tup (dN aP (bp (bp (cj (.fld "claims") aq) aP) (aQ 0)) (bp (bp (cj (.fld "claims") aq) aP) (aQ 1)))))) .pass)⟩
noncomputable abbrev Hs:=List (Nat×c8)
noncomputable abbrev Fs:=List (Nat×Int×Int)
noncomputable abbrev kN(j:Nat):Key:=.inl (j:Int)
def fP(hs:Hs):List (Key×D):=hs.map λp=>(kN p.1,p.2.d)
def gK(fs:Fs):List (Key×D):=fs.map λp=>(kN p.1,.tup [.int p.2.1,.int p.2.2])
def nums{α:Type}(hs:List (Nat×α)):List Nat:=hs.map (·.1)
def i9(hs:Hs):List c8:=hs.map (·.2)
def fZ(l:List Nat):Prop:=l.Pairwise (· < ·)
theorem M7(hs:List (Nat×α)):(nums hs).length=hs.length:=by simp[nums]
theorem P'(hs:Hs):(fP hs).map (·.1)=((nums hs).map λn:Nat=>(n:Int)).map Sum.inl:=by simp[fP,nums,kN]
theorem PU(fs:Fs):(gK fs).map (·.1)=((nums fs).map λn:Nat=>(n:Int)).map Sum.inl:=by simp[gK,nums,kN]
theorem m6{α:Type}{f:α->D}:∀{hs:List (Nat×α)} {n:Nat} {c:α},fZ (nums hs)->(n,c)∈hs->I9 (hs.map λp=>(kN p.1,f p.2)) (kN n)=some (f c)
 |[],_,_,_,h=>by cases h
 |(m,e)::r,n,c,inc,h=>by
  have jr:=cO.mp inc;unfold I9;rw[bc,iw];by_cases hm:m=n
  ·subst hm;have:c=e:=by
    rcases ay.mp h with z|z
    ·exact(xV z).2
    ·have:=jr.1 m (au.mpr ⟨_,z,rfl⟩);exact absurd this (aX m)
   subst this;simp
  ·have h':(n,c)∈r:=(ay.mp h).resolve_left λz=>hm (xV z).1.symm;have fk:decide (kN m=kN n)=false:=ax λz=>hm (by have:(m:Int)=n:=eP z;omega);simp only[fk];exact m6 jr.2 h'
theorem MU{f:α->D}(hs:List (Nat×α))(v:Int):(I9 (hs.map λp=>(kN p.1,f p.2)) (.inl v)).isSome=(nums hs).any λn=>decide ((n:Int)=v):=by
 unfold I9;rw[gz,bG,List.find?_isSome,du];constructor
 ·rintro⟨x,hx,e⟩;obtain⟨p,hp,rfl⟩:=au.mp hx;exact⟨p.1,au.mpr ⟨p,hp,rfl⟩,aL (eP (aN e))⟩
 ·rintro⟨n,hn,e⟩;obtain⟨p,hp,rfl⟩:=au.mp hn;exact⟨_,au.mpr ⟨p,hp,rfl⟩,aL (dE Sum.inl (aN e))⟩
def U8(hs:Hs)(n:Nat)(c:c8):Hs:=hs.map λp=>if p.1=n then(p.1,c) else p
theorem xc(h:n∈nums hs):putD (fP hs) (kN n) c.d=fP (U8 hs n c):=by
 unfold putD;rw[aG,fP,U8,bj,fP,bj]
 ·refine bV λp _=>?_;show(if kN p.1=kN n then(kN p.1,c.d) else(kN p.1,p.2.d))=_;by_cases e:p.1=n
  ·simp[e]
  ·have:¬kN p.1=kN n:=λz=>e (by have:(p.1:Int)=n:=eP z;omega);simp[e,this]
 ·obtain⟨p,hp,rfl⟩:=au.mp h;exact du.mpr ⟨_,au.mpr ⟨p,hp,rfl⟩,aL rfl⟩
theorem Iw(h:n∉nums hs):putD (fP hs) (kN n) c.d=fP (hs++[(n,c)]):=by
 unfold putD;rw[az]
 ·simp[fP]
 ·intro z;obtain⟨x,hx,e⟩:=du.mp z;obtain⟨p,hp,rfl⟩:=au.mp hx;have:(p.1:Int)=n:=eP (aN e);exact h (au.mpr ⟨p,hp,by omega⟩)
theorem Im(h:fZ l):(l.map λn:Nat=>(n:Int)).Pairwise (·<=·):=cH.mpr (h.imp λz=>by omega)
theorem UW(h:fZ l):(l.map λn:Nat=>(n:Int)).Nodup:=cH.mpr (h.imp λz e=>by omega)
theorem ZL(h:fZ l):N7 (l.map λn:Nat=>(n:Int))=l.map λn:Nat=>(n:Int):=N1 (BD _) (GH _) (Im h)
theorem IB(h:fZ l):q9 (l.map λn:Nat=>(n:Int))=l.map λn:Nat=>(n:Int):=by
 refine N1 ((N6 _).trans ?_) (BE _) (Im h);rw[X5 (ks:=[]) (by simpa using UW h)];exact nv _
theorem N3(l:List Nat):b7 l=(l.map λn:Nat=>(n:Int)).map D.int:=by simp[b7]
noncomputable abbrev fQ(hd cl:Nat)(lc lf:Int):O:=.ins "Cabinet" [("held",.ref hd),("claims",.ref cl),("last_coin",.int lc),("last_fact",.int lf)]
structure gb(g:G)(m hd cl:Nat)(lc lf:Int)(hs:Hs)(fs:Fs):Prop where
 o:g[m]?=some (fQ hd cl lc lf)
 h:g[hd]?=some (.bO (fP hs))
 c:g[cl]?=some (.bO (gK fs))
structure iB(hs:Hs):Prop where
 inc:fZ (nums hs)
 len:hs.length<=9
 good:∀p∈hs,kR p.2
theorem gb.at{g g':G}{m hd cl:Nat}{lc lf:Int}{hs:Hs}{fs:Fs}(C:gb g m hd cl lc lf hs fs)(e:Ex g g'):gb g' m hd cl lc lf hs fs:=⟨e.at C.o,e.at C.h,e.at C.c⟩
def bW:RW->Int
 |.lower=>0
 |_=>2
theorem IQ(w:RW):bW w=0\/bW w=2:=by cases w<;>simp[bW]
def numsOf(hs:Hs)(f v:Int):List Nat:=(hs.filter λp=>decide (K5 f p.2=v)).map (·.1)
theorem T6{n:Nat}(h:n∈numsOf hs f v):n∈nums hs:=by
 obtain⟨p,hp,rfl⟩:=au.mp h;exact au.mpr ⟨p,(bE.mp hp).1,rfl⟩
theorem numsOf_len(hs:Hs)(f v:Int):(numsOf hs f v).length<=hs.length:=by
 unfold numsOf;rw[ao];exact dI _ _
theorem Yl(h:iB hs):(i9 hs).all k8=true:=by
 rw[cg];intro c hc;obtain⟨p,hp,rfl⟩:=au.mp hc;exact(h.good p hp).good
theorem HI(hw:w≠.eN)(v:Int)(i:Nat):meant cs w v i=decide (K5 (bW w) (uI cs i)=v):=by
 cases w with
 |eN=>exact absurd rfl hw
 |lower=>rfl
 |upper=>rfl
theorem QE(hw:w≠.eN)(v:Int):(rg (i9 hs) w v).isEmpty=(numsOf hs (bW w) v).isEmpty:=by
 rw[bG,gX,gX];constructor
 ·intro h;rw[numsOf,CU,ie];intro p hp hd;obtain⟨i,hi,e⟩:=fM hp;have hl:i<(i9 hs).length:=by simpa[i9] using hi
  have:i∈rg (i9 hs) w v:=by
   refine bE.mpr ⟨dP.mpr hl,?_⟩;rw[HI hw,wC (c:=p.2) (by simp[i9,hi,e])];exact hd
  rw[h] at this;cases this
 ·intro h;rw[rg,ie];intro i hi hd;have hl:=dP.mp hi;rw[HI hw] at hd;have tP:i<hs.length:=by simpa[i9] using hl
  rw[wC (c:=hs[i].2) (by simp[i9,tP])] at hd;have:hs[i].1∈numsOf hs (bW w) v:=au.mpr ⟨hs[i],bE.mpr ⟨dY tP,hd⟩,rfl⟩;rw[h] at this;cases this
def c8.re(c:c8)(f v:Int):c8:=if f=0 then{ c with lo:=v } else{ c with up:=v }
theorem Ud(c:c8)(f v:Int):(c.re f v).re f v=c.re f v:=by
 unfold c8.re;split<;>rfl
def l0(hs:Hs)(ns:List Nat)(f v:Int):Hs:=hs.map λp=>if p.1∈ns then(p.1,p.2.re f v) else p
theorem Ir{F:Nat×c8->Nat×c8}(h:∀p,(F p).1=p.1):nums (hs.map F)=nums hs:=by
 unfold nums;rw[bj];exact bV λp _=>h p
theorem E8(hs:Hs)(ns:List Nat)(f v:Int):nums (l0 hs ns f v)=nums hs:=Ir λp=>by split<;>rfl
theorem kR.re{c:c8}(h:kR c){f v:Int}(h1:1<=v)(h2:v<=99):kR (c.re f v):=by
 obtain⟨a1,a2,a3,a4,a5,a6⟩:=h.inv;unfold c8.re;split
 ·exact kR.mk' h1 h2 a3.1 a3.2 a5 a6 a2 a4 h.l8 h.u8
 ·exact kR.mk' a1.1 a1.2 h1 h2 a5 a6 a2 a4 h.l8 h.u8
theorem iB.give(h:iB hs){ns:List Nat}(h1:1<=v)(h2:v<=99):iB (l0 hs ns f v):=by
 refine⟨by rw[E8];exact h.inc,by simpa[l0] using h.len,λp hp=>?_⟩;obtain⟨q,hq,rfl⟩:=au.mp hp;split
 ·exact(h.good q hq).re h1 h2
 ·exact h.good q hq
theorem FX(inc:fZ (nums hs)){ns:List Nat}(hc:(n,c)∈l0 hs ns f v):U8 (l0 hs ns f v) n (c.re f v)=l0 hs (ns++[n]) f v:=by
 unfold U8;have jr:fZ (nums (l0 hs ns f v)):=by rw[E8];exact inc
 have e:(l0 hs ns f v).map (λp=>if p.1=n then(p.1,c.re f v) else p)=(l0 hs ns f v).map λp=>if p.1=n then(p.1,p.2.re f v) else p:=by
  refine bV λp hp=>?_;by_cases hn:p.1=n
  ·have h1:=m6 (f:=λc:c8=>D.tup [.int c.lo,.int c.up,.int c.yr,.tup (c.lm.map .int),.tup (c.um.map .int)]) jr hc;have h2:=m6 (f:=λc:c8=>D.tup [.int c.lo,.int c.up,.int c.yr,.tup (c.lm.map .int),.tup (c.um.map .int)]) jr (show(n,p.2)∈_ by rw[<- hn];exact hp);have:c=p.2:=by
    have h3:=aF (h1.symm.trans h2);simp only[D.tup.injEq,List.cons.injEq,D.int.injEq,and_true] at h3;obtain⟨a1,a2,a3,a4,a5⟩:=h3;have inj:∀{a b:List Int},a.map D.int=b.map D.int->a=b:=λ{a b} z=>List.map_inj_right (λx y z=>by cases z;rfl) |>.mp z
    have b4:=inj a4;have b5:=inj a5;obtain⟨p1,c1,c2,c3,c4,c5⟩:=p;obtain⟨d1,d2,d3,d4,d5⟩:=c;simp only at a1 a2 a3 b4 b5;subst a1 a2 a3 b4 b5
    rfl
   rw[aG hn,aG hn,this]
  ·rw[az hn,az hn]
 rw[e];unfold l0;rw[bj];refine bV λp _=>?_;show(if(if p.1∈ns then(p.1,p.2.re f v) else p).1=n then _ else _)=_;by_cases h1:p.1∈ns
 ·rw[aG h1];simp only[List.mem_append,h1,true_or,if_true,Ud];split<;>rfl
 ·rw[az h1];by_cases h2:p.1=n
  ·have h3:¬n∈ns:=h2▸h1;simp[h2,h3]
  ·simp[h1,h2]
structure TC(T:Nat->Option aM):Prop where
 nf:NF T
 h2:T 2=some K7
 qe:T 12=some C9
 rF:Jf T
 lz:CO T
 Lq:T 20=some AK
 zq:T 74=some X9
 Lm:T 75=some Bl
 zU:T 177=some T7
 zS:T 194=some By
 zI:T 208=some V7
 ui:T 209=some A9
 zG:T 211=some L5
 zF:T 212=some O3
 qd:T 214=some M3
 uh:T 219=some K8
 ug:T 220=some J5
 zz:T 221=some O0
 uf:T 222=some O4
 zy:T 223=some T2
 zx:T 224=some T1
section
variable{t:MT}{it c elt:ME}{d6:List Nat}
inductive vI(α:Type)(P:eO)(t:MT)(c elt:ME)(Q:KD)(Z:S)(k:IK)(g1:G):Prop
 |mk (l:List α) (fl:α->D) (Sh:S->Prop) (p:α->Bool) (w:α->D) (hk:∀g',Ex g1 g'->k.Is (l.map fl) g') (hl:l.length<=1000) (h0:Sh Z)
   (hs:∀x Z g',x∈l->Ex g1 g'->Sh Z->jK t (fl x) Z λcq=>dw P c cq g' (λb g3=>b=p x/\Ex g1 g3/\if b=true then aS P elt cq g3 (λy g4=>y=w x/\Ex g1 g4/\Sh cq) je else Sh cq) je) (hd:∀g',Ex g1 g'->Q (.ref g'.length) (g'++[.lst ((l.filter p).map w)])):vI α P t c elt Q Z k g1
theorem M4(hP:j5 P)(h:gH P it Z g (vI α P t c elt Q (O8 Z d6 n)) E):aS P (.comp d6 n t it c elt) Z g Q E:=by
 refine U4 hP (z8 hP it _ _ _ _ _ _ (λk g1 h=>?_) (λ_ _ z=>z) h);obtain⟨l,fl,Sh,p,w,hk,hl,h0,hs,hd⟩:=h;refine⟨l.map fl,λi ys Z g'=>Ex g1 g'/\ys=((l.take i).filter p).map w/\Sh Z,by simpa using hl,λi ys Z g' q=>⟨hk _ q.1,?_⟩,⟨Ex.refl _,by simp,h0⟩,λi x ys Z g' hx q=>?_,λys Z g' q=>?_⟩
 ·obtain⟨_,rfl,_⟩:=q;rw[ao];exact aJ (dI _ _) (by rw[cA];omega)
 ·obtain⟨e1,rfl,sh⟩:=q;rw[aB,ae] at hx;obtain⟨x,hx,rfl⟩:=hx;refine A2 (λcq q=>n6 hP c _ _ _ _ _ _ (λb g3 q=>?_) (λ_ _ z=>z) q) (hs x Z g' (bg hx) e1 sh);obtain⟨rfl,e3,q⟩:=q;have ef:((l.take (i+1)).filter p).map w=((l.take i).filter p).map w++if p x=true then[w x] else[]:=by
   rw[cE,hx,cQ,cv]
   congr 1
   cases z:p x<;>simp[z]
  cases hp:p x with
  |true =>
   rw[hp] at q ef;rw[aG rfl] at q ⊢;refine b8 hP elt _ _ _ _ _ _ (λy g4 q=>?_) (λ_ _ z=>z) q;obtain⟨rfl,e4,sh⟩:=q;exact⟨e4,by rw[ef];rfl,sh⟩
  |false =>
   rw[hp] at q ef;rw[az (by decide)] at q ⊢;exact⟨e3,by rw[ef];simp,q⟩
 ·obtain⟨e1,rfl,sh⟩:=q;rw[ao,cL];exact hd g' e1
end
section
variable{T:Nat->Option aM}{d:Nat}{c:Nat}{lc lf:Int}
theorem K4(l:List α):l.filter (λ_=>true)=l:=jj.mpr λ_ _=>rfl
theorem BA(hT:TC T)(C:gb g m hd cl lc lf hs fs)(inc:fZ (nums hs))(hz:hs.length<=50)(h:Q (.ref g.length) (g++[.lst (b7 (nums hs))])):a8 T (k+1) 221 [.ref m] g Q E:=by
 refine call_of hT.zz rfl ?_;dsimp[O0,a9,List.replicate];walk_at"";refine v8 C.o rfl ?_;walk_at"";refine HL C.h (P' hs) (by simp[nums];omega) ?_;rw[IB inc,<- N3];exact h
theorem A7(hT:TC T)(C:gb g m hd cl lc lf hs fs)(inc:fZ (nums hs))(hz:hs.length<=50)(h:∀g' r,Ex g g'->g.length<=r->g'[r]?=some (.lst ((i9 hs).map c8.d))->Q (.ref r) g'):a8 T (k+2) 223 [.ref m] g Q E:=by
 refine call_of hT.zy rfl ?_;dsimp[T2,a9,List.replicate];walk_at"";refine M4 (α:=Nat×c8) (b0 T _) (km (b0 T _) ?_);walk_at"";refine j9 C.o rfl rfl ?_;walk_at"";refine BA (k:=k) hT C inc hz ?_;have e1:=Ex.snoc g (O.lst (b7 (nums hs)));refine⟨_,_,rfl,a7 c7,hs,λp=>.int (p.1:Nat),λZ=>∃z1 z2,Z=[some (.ref m),z1,z2],λ_=>true,λp=>p.2.d,λg' e=>w6 (a7 ?_),by omega,⟨none,none,rfl⟩,λp Z g' hp e sh=>?_,λg' e=>?_⟩
 ·rw[show hs.map (λp=>D.int (p.1:Nat))=b7 (nums hs) by simp[b7,nums]];exact e.at c7
 ·obtain⟨z1,z2,rfl⟩:=sh;refine p6 (Q7 ⟨rfl,e,js ?_⟩);walk_at"";have C':=(C.at e1).at e;refine v8 C'.o rfl ?_;walk_at"";exact k7 C'.h rfl (m6 (f:=c8.d) inc hp) ⟨rfl,e,_,_,rfl⟩
 ·rw[K4];refine h _ _ ((e1.trans e).trans (Ex.snoc _ _)) (e1.trans e).len ?_;rw[i9,bj];exact c7
theorem PL(hT:TC T)(C:gb g m hd cl lc lf hs fs)(inc:fZ (nums fs))(hz:fs.length<=50)(h:∀g' r,Ex g g'->g.length<=r->g'[r]?=some (.lst (fs.map λf=>.tup [.int (f.1:Nat),.int f.2.1,.int f.2.2]))->Q (.ref r) g'):a8 T (k+2) 224 [.ref m] g Q E:=by
 refine call_of hT.zx rfl ?_;dsimp[T1,a9,List.replicate];walk_at"";refine M4 (α:=Nat×Int×Int) (b0 T _) (km (b0 T _) ?_);walk_at"";refine v8 C.o rfl ?_;walk_at"";refine HL C.c (PU fs) (by simp[nums];omega) ?_;rw[IB inc,<- N3];have e1:=Ex.snoc g (O.lst (b7 (nums fs)));refine⟨_,_,rfl,a7 c7,fs,λp=>.int (p.1:Nat),λZ=>∃z1 z2,Z=[some (.ref m),z1,z2],λ_=>true,λf=>.tup [.int (f.1:Nat),.int f.2.1,.int f.2.2],λg' e=>w6 (a7 ?_),by omega,⟨none,none,rfl⟩,λp Z g' hp e sh=>?_,λg' e=>?_⟩
 ·rw[show fs.map (λp=>D.int (p.1:Nat))=b7 (nums fs) by simp[b7,nums]];exact e.at c7
 ·obtain⟨z1,z2,rfl⟩:=sh;refine p6 (Q7 ⟨rfl,e,js ?_⟩);walk_at"";have C':=(C.at e1).at e;have hv:=m6 (f:=λx:Int×Int=>D.tup [.int x.1,.int x.2]) inc hp;refine v8 C'.o rfl ?_;walk_at"";refine k7 C'.c rfl hv ?_;walk_at"";refine v8 C'.o rfl ?_;walk_at"";refine k7 C'.c rfl hv ?_;walk_at"";exact⟨rfl,e,_,_,rfl⟩
 ·rw[K4];exact h _ _ ((e1.trans e).trans (Ex.snoc _ _)) (e1.trans e).len c7
theorem Py(hT:TC T)(C:gb g m hd cl lc lf hs fs)(inc:fZ (nums hs)){x:c8}(hn:(n,x)∈hs)(h:Q x.d g):a8 T (k+3) 222 [.ref m,.int (n:Nat)] g Q E:=by
 refine call_of hT.uf rfl ?_;dsimp[O4,a9,List.replicate];walk_at"";refine j9 C.o rfl rfl ?_;walk_at"";refine call_of hT.ui rfl ?_;dsimp[A9,a9,List.replicate];walk_at"";refine E6 (k:=k) hT.nf ?_;walk_at"";refine v8 C.o rfl ?_;walk_at"";refine J8 ⟨(I9 (fP hs) (kN n)).isSome,.inl ⟨_,_,kN n,rfl,C.h,rfl,rfl⟩,?_⟩;rw[show I9 (fP hs) (kN n)=some x.d from m6 (f:=c8.d) inc hn];walk_at"";refine fj rfl ?_;walk_at"";refine v8 C.o rfl ?_;walk_at"";exact k7 C.h rfl (m6 (f:=c8.d) inc hn) h
theorem T4(hT:TC T)(hw:w≠.eN)(ha:g[a]?=some (.lst ((i9 hs).map c8.d)))(hz:hs.length<=9)(h:numsOf hs (bW w) v≠[]->∀g',Ex g g'->Q .bf g')(hn:numsOf hs (bW w) v=[]->∀g',Ex g g'->E ⟨"NoDie"⟩ g'):a8 T (k+4) 75 [.ref a,.str w.s,.int v] g Q E:=by
 refine call_of hT.Lm rfl ?_;dsimp[Bl,a9,List.replicate];walk_at"";refine WW (k:=k) hT.nf hT.lz hT.zq ha (by simp[i9];omega) λg1 b e1 _ hb=>?_;walk_at"";refine Uu (a7 hb) ?_;have:(b7 (rg (i9 hs) w v)).isEmpty=(numsOf hs (bW w) v).isEmpty:=by
  rw[<- QE hw];unfold b7;cases rg (i9 hs) w v<;>rfl
 rw[this];cases hq:numsOf hs (bW w) v with
 |nil =>
  refine fm rfl ?_;walk_at"";exact hn hq _ e1
 |cons x l =>
  refine fj rfl ?_;walk_at"";exact h (by rw[hq];simp) _ e1
theorem Bv(hT:TC T)(hw:w≠.eN)(h:Q (.int (bW w)) g):a8 T (k+2) 19 [.str w.s] g Q E:=by
 cases w with
 |eN=>exact absurd rfl hw
 |lower=>exact O7 (k:=k) hT.lz (by decide +kernel) (λ_=>h) (λz=>absurd z (by decide +kernel)) (λz=>absurd rfl z)
 |upper=>exact O7 (k:=k) hT.lz (by decide +kernel) (λz=>absurd z (by decide +kernel)) (λ_=>h) (λ_ z=>absurd rfl z)
theorem GI(hT:TC T)(hw:w≠.eN)(h:Q .bf g):a8 T (k+1) 40 [.str w.s] g Q E:=by
 cases w with
 |eN=>exact absurd rfl hw
 |lower=>exact F8 hT.lz.2 (by decide +kernel) (λ_=>h) (λz=>absurd rfl z)
 |upper=>exact F8 hT.lz.2 (by decide +kernel) (λ_=>h) (λ_ z=>absurd rfl z)
theorem Hb(hT:TC T)(hw:w≠.eN)(C:gb g m hd cl lc lf hs fs)(inc:fZ (nums hs))(hz:hs.length<=50)(h:∀g' r,Ex g g'->g.length<=r->g'[r]?=some (.lst (b7 (numsOf hs (bW w) v)))->Q (.ref r) g'):a8 T (k+3) 211 [.ref m,.str w.s,.int v] g Q E:=by
 refine call_of hT.zG rfl ?_;dsimp[L5,a9,List.replicate];walk_at"";refine Bv (k:=k) hT hw ?_;walk_at"";refine M4 (α:=Nat×c8) (b0 T _) (km (b0 T _) ?_);walk_at"";refine j9 C.o rfl rfl ?_;walk_at"";refine BA (k:=k+1) hT C inc hz ?_;have e1:=Ex.snoc g (O.lst (b7 (nums hs)));refine⟨_,_,rfl,a7 c7,hs,λp=>.int (p.1:Nat),λZ=>∃z3 z4,Z=[some (.int v),some (.int (bW w)),some (.ref m),z3,z4],λp=>decide (K5 (bW w) p.2=v),λp=>.int (p.1:Nat),λg' e=>w6 (a7 ?_),by omega,⟨none,none,rfl⟩,λp Z g' hp e sh=>?_,λg' e=>?_⟩
 ·rw[show hs.map (λp=>D.int (p.1:Nat))=b7 (nums hs) by simp[b7,nums]];exact e.at c7
 ·obtain⟨z3,z4,rfl⟩:=sh;refine p6 ?_
  try show dw _ _ _ _ _ _
  walk_at"";have C':=(C.at e1).at e;refine v8 C'.o rfl ?_;walk_at"";refine k7 C'.h rfl (m6 (f:=c8.d) inc hp) ?_;walk_at"";refine Q1 (uX (IQ w) p.2) ?_;walk_at"";refine⟨rfl,e,?_⟩;refine if2 (λ_=>?_) (λ_=>?_)
  ·walk_at"";exact⟨rfl,e,_,_,rfl⟩
  ·exact⟨_,_,rfl⟩
 ·refine h _ _ ((e1.trans e).trans (Ex.snoc _ _)) (e1.trans e).len ?_;rw[numsOf,b7,bj];exact c7
end
theorem Wv{a b c d:D}:cut [a,b,c,d,e] none (some 0)=[]:=rfl
theorem QG{a b c d:D}:cut [a,b,c,d,e] (some 1) none=[b,c,d,e]:=rfl
theorem QH{a b c d:D}:cut [a,b,c,d,e] none (some 2)=[a,b]:=rfl
theorem QI{a b c d:D}:cut [a,b,c,d,e] (some 3) none=[d,e]:=rfl
theorem AM:∀{a b:List Int},a.Nodup->(∀x∈a,x∈b)->a.length<=b.length
 |[],b,_,_=>bX _
 |x::a,b,nd,h=>by
  rw[eI] at nd;have h1:=h x (by simp);have:=AM (b:=b.erase x) nd.2 λy hy=>(List.mem_erase_of_ne (λz=>nd.1 (by rw[<- z];exact hy))).mpr (h y (by simp[hy]));rw[List.length_erase_of_mem h1] at this;have:=List.length_pos_of_mem h1;rw[cM];omega
structure nV(ds:List Int)(F:Int):Prop where
 pos:1<=F
 no:F∉ds
 all:∀i,1<=i->i<F->i∈ds
theorem nV.le{F:Int}(h:nV ds F):F<=ds.length+1:=by
 have:=AM (a:=(List.range (F-1).toNat).map λi:Nat=>(i:Int)+1) (b:=ds) (cH.mpr (List.nodup_range.imp λz e=>z (by omega))) λx hx=>by
  obtain⟨i,hi,rfl⟩:=au.mp hx;have:=dP.mp hi;exact h.all _ (by omega) (by omega)
 simp at this;have:=h.pos;omega
theorem Nr(ds:List Int):∃F,nV ds F:=by
 have go:∀n:Nat,(∃F,nV ds F)\/∀i:Int,1<=i->i<=n->i∈ds:=λn=>by
  induction n with
  |zero=>exact .inr λi h1 h2=>by omega
  |succ n ih =>
   rcases ih with h|h
   ·exact .inl h
   ·by_cases hn:((n:Int)+1)∈ds
    ·exact .inr λi h1 h2=>by
      by_cases e:i=n+1
      ·rw[e];exact hn
      ·exact h i h1 (by omega)
    ·exact .inl ⟨n+1,by omega,hn,λi h1 h2=>h i h1 (by omega)⟩
 rcases go (ds.length+1) with h|h
 ·exact h
 ·exfalso;have:=AM (a:=(List.range (ds.length+1)).map λi:Nat=>(i:Int)+1) (b:=ds) (cH.mpr (List.nodup_range.imp λz e=>z (by omega))) λx hx=>by
   obtain⟨i,hi,rfl⟩:=au.mp hx;have:=dP.mp hi;exact h _ (by omega) (by omega)
  simp at this;omega
def L1(hs:Hs)(f:Int):List Int:=(i9 hs).map (K5 f)
theorem Bj{v:Int}:v∈L1 hs f↔numsOf hs f v≠[]:=by
 unfold L1 i9 numsOf;rw[bj];constructor
 ·intro h z;obtain⟨p,hp,e⟩:=au.mp h;rw[CU,ie] at z;exact z p hp (aL e)
 ·intro h;cases hf:hs.filter λp=>decide (K5 f p.2=v) with
  |nil=>rw[hf] at h;exact absurd rfl h
  |cons p r =>
   have hp:p∈hs.filter λp=>decide (K5 f p.2=v):=by rw[hf];simp
   obtain⟨h1,h2⟩:=bE.mp hp;exact au.mpr ⟨p,h1,aN h2⟩
def y9(hs:Hs)(f v u:Int):Str:=if numsOf hs f v=[]\/numsOf hs f u=[] then "NoDie" else if v=u then "SameOne" else ""
def L9(hs:Hs)(f v:Int)(ns:List Int):Bool:=decide ((ST.f9 [] ns).length≠ns.length)||(decide (ns.length=0)||decide (ns.length=(numsOf hs f v).length))
def z9(hs:Hs)(f v:Int)(ns:List Int):Str:=if numsOf hs f v=[] then "NoDie" else if(ns.all λn=>decide (n∈(numsOf hs f v).map λn:Nat=>(n:Int)))=true then(if L9 hs f v ns=true then "BadList" else "") else "NoCoin"
section
variable{T:Nat->Option aM}{d:Nat}{c:Nat}
theorem Q2{i:Int}(ha:F7 g y=some (ms.map .int))(h:kb (decide (i∈ms))):pR g (.int i) y kb:=by
 refine⟨_,.inr ⟨_,ms.map .int,.int i,ha,?_,rfl,?_,rfl,rfl⟩,?_⟩
 ·unfold Dr;exact R9 ms
 ·exact lay_ints ms
 ·have:((ms.map PyData.int).any λq=>PyData.eqv q (.int i))=decide (i∈ms):=by
   rw[List.any_map,bG,du,cc];constructor
   ·rintro⟨x,hx,e⟩;have:x=i:=by simpa[PyData.eqv] using e
    rw[<- this];exact hx
   ·intro hx;exact⟨i,hx,by simp[PyData.eqv]⟩
  rw[this];exact h
theorem YO(hT:TC T){c:c8}(h:Q (c.re (bW w) v).d g):a8 T (k+1) 177 [c.d,.int (bW w),.int v] g Q E:=by
 refine call_of hT.zU rfl ?_;have h0:w=.lower\/bW w=2:=by cases w<;>simp[bW]
 rcases h0 with rfl|h2
 ·dsimp[T7,a9,List.replicate,bW,c8.d];walk_at"";rw[Wv];refine uL (by simp) ?_;walk_at"";rw[show(0:Int)+1=1 by rfl,QG];refine uL (by simp) ?_;walk_at"";exact h
 ·rw[h2] at h ⊢;dsimp[T7,a9,List.replicate,c8.d];walk_at"";rw[QH];refine uL (by simp) ?_;walk_at"";rw[show(2:Int)+1=3 by rfl,QI];refine uL (by simp) ?_;walk_at"";exact h
theorem HC(hT:TC T)(hw:w≠.eN)(C:gb g m hd cl lc lf hs fs)(inc:fZ (nums hs))(hz:hs.length<=50){ns:List Nat}(ha:g[a]?=some (.lst (b7 ns)))(hn:∀n∈ns,n∈nums hs)(n1:a≠hd)(n2:m≠hd)(n3:cl≠hd)(h:∀g',g'.length=g.length->(∀i,i≠hd->g'[i]?=g[i]?)->gb g' m hd cl lc lf (l0 hs ns (bW w) v) fs->Q .bf g'):a8 T (k+3) 212 [.ref m,.str w.s,.ref a,.int v] g Q E:=by
 refine call_of hT.zF rfl ?_;dsimp[O3,a9,List.replicate];walk_at"";refine Bv (k:=k) hT hw ?_;walk_at"";refine qQ (b0 T _) (km (b0 T _) ?_);walk_at"";refine⟨a,_,rfl,a7 ha,b7 ns,λi Z g'=>(∃z5,Z=[some (.ref m),some (.str w.s),some (.ref a),some (.int v),some (.int (bW w)),z5])/\g'.length=g.length/\(∀i,i≠hd->g'[i]?=g[i]?)/\gb g' m hd cl lc lf (l0 hs (ns.take i) (bW w) v) fs,λi Z g' q=>w6 (a7 (by rw[q.2.2.1 a n1];exact ha)),⟨⟨none,rfl⟩,rfl,λ_ _=>rfl,?_⟩,λi x Z g' hx q=>?_,λZ g' q=>?_⟩
 ·have:l0 hs (ns.take 0) (bW w) v=hs:=by
   unfold l0
   conv=>rhs;rw[<- xW hs]
   exact bV λp _=>by simp
  rw[this];exact C
 ·obtain⟨⟨z5,rfl⟩,l1,o1,C1⟩:=q;rw[b7,aB,ae] at hx;obtain⟨n,hx,rfl⟩:=hx;refine p6 ?_
  try show wpS _ _ _ _ _ _
  have hm:=hn n (bg hx);have lg:n∈nums (l0 hs (ns.take i) (bW w) v):=by rw[E8];exact hm
  have jr:fZ (nums (l0 hs (ns.take i) (bW w) v)):=by rw[E8];exact inc
  obtain⟨p,hp,yP⟩:=au.mp lg;have fI:(n,p.2)∈l0 hs (ns.take i) (bW w) v:=by rw[<- yP];exact hp
  walk_at"";refine v8 C1.o rfl ?_;walk_at"";refine k7 C1.h rfl (m6 (f:=c8.d) jr fI) ?_;walk_at"";refine YO (k:=k+1) hT ?_;walk_at"";refine v8 C1.o rfl ?_;walk_at"";refine Q8 C1.h rfl (by simp[fP,l0];omega) ?_;rw[xc lg,FX inc fI];refine⟨⟨_,rfl⟩,by simpa using l1,λi hi=>by rw[aR (aZ hi)];exact o1 i hi,d8 C1.o (aZ n2),?_,d8 C1.c (aZ n3)⟩;rw[show ns.take (i+1)=ns.take i++[n] by rw[cE,hx];rfl];exact get_set C1.h
 ·obtain⟨⟨z5,rfl⟩,l1,o1,C1⟩:=q;rw[b7,ao,cL] at C1;exact h g' l1 o1 C1
theorem Vq(hT:TC T)(hw:w≠.eN)(C:gb g m hd cl lc lf hs fs)(O1:iB hs)(n2:m≠hd)(n3:cl≠hd)(hn:y9 hs (bW w) v u≠""->∀g',Ex g g'->E ⟨y9 hs (bW w) v u⟩ g')(h:y9 hs (bW w) v u=""->∀g' r,Gr hd g g'->g.length<=r->g'[r]?=some (.lst (b7 (numsOf hs (bW w) u)))->gb g' m hd cl lc lf (l0 hs (numsOf hs (bW w) u) (bW w) v) fs->Q (.ref r) g'):a8 T (k+5) 219 [.ref m,.str w.s,.int v,.int u] g Q E:=by
 have hz:=O1.len;refine call_of hT.uh rfl ?_;dsimp[K8,a9,List.replicate];walk_at"";refine GI (k:=k+3) hT hw ?_;walk_at"";refine j9 C.o rfl rfl ?_;walk_at"";refine A7 (k:=k+2) hT C O1.inc (by omega) λg1 r1 e1 _ oJ=>?_;walk_at"";refine T4 (k:=k) hT hw oJ hz (λd1 g2 e2=>?_) (λd1 g2 e2=>?_)
 ·have jw:=e1.trans e2;have C2:=C.at jw;walk_at"";refine j9 C2.o rfl rfl ?_;walk_at"";refine A7 (k:=k+2) hT C2 O1.inc (by omega) λg3 r3 e3 _ mS=>?_;walk_at"";refine T4 (k:=k) hT hw mS hz (λd2 g4 e4=>?_) (λd2 g4 e4=>?_)
  ·have wy:=jw.trans (e3.trans e4);have C4:=C.at wy;walk_at"";refine if2 (λpS=>?_) (λpS=>?_)
   ·have:y9 hs (bW w) v u="SameOne":=by unfold y9;rw[az (λz=>z.elim d1 d2),aG pS]
    rw[this] at hn;walk_at"";exact hn (by decide +kernel) _ wy
   ·have this:y9 hs (bW w) v u="":=by unfold y9;rw[az (λz=>z.elim d1 d2),az pS]
    walk_at"";refine j9 C4.o rfl rfl ?_;walk_at"";refine Hb (k:=k+1) hT hw C4 O1.inc (by omega) λg5 r5 e5 l5 pV=>?_;have qo:=wy.trans e5;have C5:=C.at qo;have lh:=m8 C4.h;walk_at"";refine j9 C5.o rfl rfl ?_;walk_at"";refine HC (k:=k+1) hT hw C5 O1.inc (by omega) pV (λn hn=>T6 hn) (by omega) n2 n3 λg6 l6 o6 C6=>?_;walk_at"";refine h this g6 r5 ⟨by have:=qo.len;omega,λi hi hl=>by rw[o6 i hi];exact qo.old i hl⟩ (by have:=wy.len;omega) (by rw[o6 r5 (by omega)];exact pV) C6
  ·have:y9 hs (bW w) v u="NoDie":=by unfold y9;rw[aG (.inr d2)]
   rw[this] at hn;exact hn (by decide +kernel) _ (jw.trans (e3.trans e4))
 ·have:y9 hs (bW w) v u="NoDie":=by unfold y9;rw[aG (.inl d1)]
  rw[this] at hn;exact hn (by decide +kernel) _ (e1.trans e2)
theorem Zn(hT:TC T){F:Int}(hF:nV ds F)(ha:g[a]?=some (.lst (ds.map .int)))(h:Q (.int F) g):a8 T (k+1) 194 [.ref a] g Q E:=by
 refine call_of hT.zS rfl ?_;dsimp[By,a9,List.replicate];walk_at"";refine Pk (λj Z g'=>g'=g/\∃i:Int,Z=[some (.ref a),some (.int i)]/\1<=i/\i<=F/\j=(F-i).toNat) _ ⟨rfl,1,rfl,by decide,hF.pos,rfl⟩ (λj Z g' q=>?_) (b0 T _);obtain⟨rfl,i,rfl,i1,i2,rfl⟩:=q;walk_at"";refine rL (Q2 (a7 ha) ?_);walk_at"";refine if2 (λhi=>?_) (λhi=>?_)
 ·have:i≠F:=λz=>hF.no (z▸hi);walk_at"";refine MV rfl ?_;walk_at"";refine Cg ?_;exact⟨(F-(i+1)).toNat,by omega,rfl,i+1,rfl,by omega,by omega,rfl⟩
 ·have e:i=F:=by
   refine ou λz=>hi (hF.all i i1 (by omega))
  subst e;walk_at"";exact h
theorem PJ(hT:TC T)(hw:w≠.eN)(O1:iB hs)(ha:g[a]?=some (.lst ((i9 hs).map c8.d)))(h:Q (.ref g.length) (g++[.lst ((q9 (L1 hs (bW w))).map .int)])):a8 T (k+7) 20 [.ref a,.str w.s] g Q E:=by
 have hz:(i9 hs).length<=9:=by simpa[i9] using O1.len
 unfold L1 at h;generalize mT:i9 hs=cs at *;have hg:cs.all k8=true:=by rw[<- mT];exact Yl O1
 refine call_of hT.Lq rfl ?_;dsimp[AK,a9,List.replicate];walk_at"";refine WG (k:=k) hT.nf hT.h2 hT.qe hT.rF ha (by omega) (λz=>by omega) (λ_ z=>by rw[hg] at z;cases z) λ_ _=>?_;walk_at"";refine Bv (k:=k+4) hT hw ?_;walk_at"";refine Pj (b0 T _) (km (b0 T _) ?_);walk_at"";refine⟨a,_,rfl,a7 ha,cs.map c8.d,λi ys Z g'=>∃z y,ys=(cs.take i).map (K5 (bW w))/\Z=[some (.int (bW w)),z,y]/\g'=g,by simp;omega,λi ys Z g' p=>?_,⟨none,none,by simp,rfl,rfl⟩,λi c ys Z g' hx p=>?_,λys Z g' p=>?_⟩
 ·obtain⟨z,y,rfl,rfl,rfl⟩:=p;exact⟨w6 (a7 ha),by simp;omega⟩
 ·obtain⟨z,y,rfl,rfl,rfl⟩:=p;rw[aB,ae] at hx;obtain⟨c,hc,rfl⟩:=hx;show dw _ _ _ _ _ _;walk_at"";refine Q1 (uX (IQ w) c) ?_;refine⟨_,rfl,_,_,?_,rfl,rfl⟩;rw[cE,hc];simp
 ·obtain⟨z,y,rfl,rfl,rfl⟩:=p;rw[ao,cL];exact h
theorem a38{F:Int}(h:nV ds F):nV (q9 ds) F:=by
 have e:∀x,x∈q9 ds↔x∈ds:=λx=>by rw[(N6 ds).mem_iff,ST.Bz];simp
 exact⟨h.pos,λz=>h.no ((e _).mp z),λi h1 h2=>(e _).mpr (h.all i h1 h2)⟩
theorem MQ(hT:TC T)(hw:w≠.eN)(C:gb g m hd cl lc lf hs fs)(O1:iB hs)(n2:m≠hd)(n3:cl≠hd)(ha:g[a]?=some (.lst (ns.map .int)))(hl:ns.length<=50)(n1:a≠hd){F:Int}(hF:nV (L1 hs (bW w)) F)(hn:z9 hs (bW w) v ns≠""->∀g',Ex g g'->E ⟨z9 hs (bW w) v ns⟩ g')(h:z9 hs (bW w) v ns=""->∀g',Gr hd g g'->gb g' m hd cl lc lf (l0 hs (ns.map Int.toNat) (bW w) F) fs->Q (.int F) g'):a8 T (k+8) 220 [.ref m,.str w.s,.int v,.ref a] g Q E:=by
 have hz:=O1.len;refine call_of hT.ug rfl ?_;dsimp[J5,a9,List.replicate];walk_at"";refine GI (k:=k+6) hT hw ?_;walk_at"";refine j9 C.o rfl rfl ?_;walk_at"";refine A7 (k:=k+5) hT C O1.inc (by omega) λg1 r1 e1 _ oJ=>?_;walk_at"";refine T4 (k:=k+3) hT hw oJ hz (λd1 g2 e2=>?_) (λd1 g2 e2=>?_)
 ·have jw:=e1.trans e2;have C2:=C.at jw;walk_at"";refine j9 C2.o rfl rfl ?_;walk_at"";refine Hb (k:=k+4) hT hw C2 O1.inc (by omega) λg3 r3 e3 l3 mS=>?_;have jv:=jw.trans e3;have C3:=C.at jv;have a3:=jv.at ha;rw[N3] at mS;walk_at"";refine qQ (b0 T _) (km (b0 T _) ?_);walk_at"";refine⟨a,_,rfl,a7 a3,ns.map .int,λi Z g'=>g'=g3/\(∃z5,Z=[some (.ref m),some (.str w.s),some (.int v),some (.ref a),some (.ref r3),z5,none])/\((ns.take i).all λn=>decide (n∈(numsOf hs (bW w) v).map λn:Nat=>(n:Int)))=true,λi Z g' q=>w6 (a7 (by rw[q.1];exact a3)),⟨rfl,⟨none,rfl⟩,by simp⟩,λi x Z g' hx q=>?_,λZ g' q=>?_⟩
  ·obtain⟨rfl,⟨z5,rfl⟩,q⟩:=q;rw[aB,ae] at hx;obtain⟨n,hx,rfl⟩:=hx;refine p6 ?_
   try show wpS _ _ _ _ _ _
   walk_at"";refine E6 (k:=k+6) hT.nf ?_;walk_at"";refine J8 (Q2 (a7 mS) ?_);walk_at"";by_cases hm:n∈(numsOf hs (bW w) v).map λn:Nat=>(n:Int)
   ·refine fj (by rw[aL hm];rfl) ?_;walk_at"";refine⟨rfl,⟨_,rfl⟩,?_⟩;rw[cE,hx];simp only[Option.toList_some,List.all_append,q,List.all_cons,List.all_nil,decide_eq_true hm]
    rfl
   ·refine fm (by rw[ax hm];rfl) ?_;walk_at"";have:z9 hs (bW w) v ns="NoCoin":=by
     unfold z9;rw[az d1,az];intro z;exact hm (aN (cg.mp z n (bg hx)))
    rw[this] at hn;exact hn (by decide +kernel) _ jv
  ·obtain⟨rfl,⟨z5,rfl⟩,q⟩:=q;rw[ao,cL] at q
   try show wpS _ _ _ _ _ _
   walk_at"";refine IT (a7 a3) (by omega) ?_;walk_at""
   try refine se (a7 a3) ?_
   walk_at"";have bad:L9 hs (bW w) v ns=true->z9 hs (bW w) v ns="BadList":=λz=>by unfold z9;rw[az d1,aG q,aG z]
   have good:L9 hs (bW w) v ns=false->z9 hs (bW w) v ns="":=λz=>by unfold z9;rw[az d1,aG q,az (by rw[z];decide)]
   have lm:(ns.map D.int).length=ns.length:=by simp
   have lr:(((numsOf hs (bW w) v).map λn:Nat=>(n:Int)).map D.int).length=(numsOf hs (bW w) v).length:=by simp
   rw[lm];by_cases c1:(ST.f9 [] ns).length=ns.length
   ·refine fj (by rw[aL (show((ST.f9 [] ns).length:Int)=ns.length by omega)];rfl) ?_;walk_at""
    try refine se (a7 a3) ?_
    walk_at""
    try refine se (a7 mS) ?_
    walk_at""
    try rw[lm]
    try rw[lr]
    refine rL (Q2 (ms:=[0,((numsOf hs (bW w) v).length:Int)]) rfl ?_);walk_at"";by_cases c2:ns.length=0\/ns.length=(numsOf hs (bW w) v).length
    ·refine fm (aL (by rw[ay,dA];omega)) ?_;walk_at"";have b1:L9 hs (bW w) v ns=true:=by
      unfold L9;rcases c2 with z|z
      ·simp[z]
      ·simp[z]
     rw[bad b1] at hn;exact hn (by decide +kernel) _ jv
    ·refine fj (ax (by rw[ay,dA];omega)) ?_;have b1:L9 hs (bW w) v ns=false:=by
      unfold L9;rw[ax (by omega),ax (by omega),ax (by omega)]
      rfl
     walk_at"";refine j9 C3.o rfl rfl ?_;walk_at"";refine A7 (k:=k+5) hT C3 O1.inc (by omega) λg4 r4 e4 _ tI=>?_;walk_at"";refine PJ (k:=k) hT hw O1 tI ?_;walk_at"";have e5:=e4.trans (Ex.snoc g4 (O.lst ((q9 (L1 hs (bW w))).map .int)));refine Zn (k:=k+6) hT (a38 hF) c7 ?_;have qo:=jv.trans e5;have C5:=C.at qo;walk_at"";refine j9 C5.o rfl rfl ?_;walk_at"";have tL:∀n∈ns,∃j∈numsOf hs (bW w) v,n=(j:Nat):=λn hx=>by
      obtain⟨j,hj,e⟩:=au.mp (aN (cg.mp q n hx));exact⟨j,hj,e.symm⟩
     have en:ns.map D.int=b7 (ns.map Int.toNat):=by
      rw[b7,bj];refine bV λn hx=>?_;obtain⟨j,_,rfl⟩:=tL n hx;simp
     have a5:=e5.at a3;rw[en] at a5;refine HC (k:=k+4) hT hw C5 O1.inc (by omega) a5 (λn hx=>?_) n1 n2 n3 λg6 l6 o6 C6=>?_
     ·obtain⟨i,hi,rfl⟩:=au.mp hx;obtain⟨j,hj,rfl⟩:=tL i hi;exact T6 (by simpa using hj)
     ·walk_at"";exact h (good b1) g6 ⟨by have:=qo.len;omega,λi hi hl=>by rw[o6 i hi];exact qo.old i hl⟩ C6
   ·refine fm (by rw[ax (show ¬((ST.f9 [] ns).length:Int)=ns.length by omega)];rfl) ?_;walk_at"";have b1:L9 hs (bW w) v ns=true:=by
     unfold L9;rw[aL c1]
     rfl
    rw[bad b1] at hn;exact hn (by decide +kernel) _ jv
 ·have:z9 hs (bW w) v ns="NoDie":=by unfold z9;rw[aG d1]
  rw[this] at hn;exact hn (by decide +kernel) _ (e1.trans e2)
theorem WC(hT:TC T)(C:gb g m hd cl lc lf hs fs){c:c8}(hc:k8 c=true)(hz:hs.length<9)(dC:∀n∈nums hs,n<=lc)(n2:m≠hd)(n3:cl≠hd)(n4:cl≠m)(h:∀g',g'.length=g.length->(∀i,i≠hd->i≠m->g'[i]?=g[i]?)->gb g' m hd cl (lc+1:Nat) lf (hs++[(lc+1,c)]) fs->Q (.int (lc+1:Nat)) g'):a8 T (k+6) 214 [.ref m,c.d] g Q E:=by
 refine call_of hT.qd rfl ?_;dsimp[M3,a9,List.replicate];walk_at"";refine call_of hT.rF.2 rfl ?_;dsimp[N9,a9,List.replicate];walk_at"";refine X2 hT.nf hT.h2 hT.qe ?_;walk_at"";rw[hc];walk_at"";refine v8 C.o rfl ?_;walk_at"";refine BN C.h ?_;walk_at"";refine if2 (λz=>?_) (λ_=>?_)
 ·rw[fP,ao] at z;omega
 walk_at"";refine Ho ?_;walk_at"";refine⟨m,_,_,_,rfl,C.o,by simp,rfl,?_⟩;walk_at"";refine Cg ?_;refine⟨_,C.o,by simp,?_⟩;have e3:(O.ins "Cabinet" (x8 "last_coin" (.int ((lc:Nat)+1)) [("held",.ref hd),("claims",.ref cl),("last_coin",.int (lc:Nat)),("last_fact",.int (lf:Nat))]))=fQ hd cl (lc+1:Nat) (lf:Nat):=rfl;rw[e3];have oN:=get_set C.o (o':=fQ hd cl (lc+1:Nat) (lf:Nat));walk_at"";refine v8 oN rfl ?_;walk_at"";refine v8 oN rfl ?_;walk_at"";have DS:=d8 C.h n2 (o':=fQ hd cl (lc+1:Nat) (lf:Nat));refine Q8 DS rfl (by simp[fP];omega) ?_;rw[Iw (n:=lc+1) (λz=>by have:=dC _ z;omega)];walk_at"";have rA:=d8 oN (aZ n2) (o':=O.bO (fP (hs++[(lc+1,c)])));refine v8 rA rfl ?_;walk_at"";refine h _ (by simp) (λi h1 h2=>by rw[aR (aZ h1),aR (aZ h2)]) ⟨rA,get_set DS,d8 (d8 C.c (aZ n4)) (aZ n3)⟩
end
def Bo:aM:=⟨2,2,(.seq (.ifs (.gC (cw .Eq (cj .len aE) (aQ 0)) (cw .Eq (.call 4 (cS aq (aQ 10))) (aQ 4))) (.seq (.ret (.call 36 (cS aq (bJ (.bin .Add) (aQ 3) (cj .len aE))))) .pass) .pass) (.seq (.ret (bp aE (.call 4 (cS aq (cj .len aE))))) .pass))⟩
def Ax:aM:=⟨0,0,(.seq (.ret (.ng (.cons (bR "coins") (Ed (.prim .T3 .nil) (bR "facts") (.prim .T3 .nil) (bR "given") (aQ 0) (bR "learnt") (aQ 0))))) .pass)⟩
def AZ:aM:=⟨1,1,(.seq (.ret (.comp [0] 3 (.one 2) (.eR (cj .eK (cj .list (bp aq (bR "coins"))))) .no (bp (bp aq (bR "coins")) aP))) .pass)⟩
def BQ:aM:=⟨2,2,(.seq (.ifs (.cV (.dU (.call 13 (cC aE)))) (.seq (.ret (bJ .tup (bR "BadCoin") (.lit .bf))) .pass) .pass) (.seq (.ifs (cw .Gt (cj .len (bp aq (bR "coins"))) (aQ 8)) (.seq (.ret (bJ .tup (bR "Full") (.lit .bf))) .pass) .pass) (.seq (.cN aq (bR "given") (bJ (.bin .Add) (bp aq (bR "given")) (aQ 1))) (.seq (.cN (bp aq (bR "coins")) (bp aq (bR "given")) aE) (.seq (.ret (bJ .tup (bR "") (bp aq (bR "given")))) .pass)))))⟩
def Bp:aM:=⟨3,4,(.seq (.set 3 (cj .list aq)) (.seq (.cN bh (.ite (cw .Eq aE (bR "lower")) (aQ 0) (aQ 2)) aP) (.seq (.ret (.prim .tup (ox (bp bh (aQ 0)) (bp bh (aQ 1)) (bp bh (aQ 2)) (bp bh (aQ 3)) (bp bh (aQ 4))))) .pass)))⟩
def Aw:aM:=⟨3,4,(.seq (.set 3 (.ite (cw .Eq aE (bR "lower")) (aQ 0) (aQ 2))) (.seq (.ret (.comp [3,0,2] 5 (.one 4) (.eR (cj .eK (cj .list (bp aq (bR "coins"))))) (cw .Eq (bp (bp (bp aE (bR "coins")) cB) aq) aP) cB)) .pass))⟩
def xJ:aM:=⟨4,6,(.seq (.ifs (cw .NotIn aE (bJ .lst (bR "lower") (bR "upper"))) (.seq (.ret (bJ .tup (bR "BadSide") (.lit .bf))) .pass) .pass) (.seq (.set 4 (.call 201 (dN aq aE bh))) (.seq (.ifs (.gC (cw .Eq (cj .len cB) (aQ 0)) (cw .Eq (cj .len (.call 201 (dN aq aE aP))) (aQ 0))) (.seq (.ret (bJ .tup (bR "NoDie") (.lit .bf))) .pass) .pass) (.seq (.ifs (cw .Eq aP bh) (.seq (.ret (bJ .tup (bR "SameOne") (.lit .bf))) .pass) .pass) (.seq (.eM (.one 5) (.eR cB) (.seq (.cN (bp aq (bR "coins")) dR (.call 200 (dN (bp (bp aq (bR "coins")) dR) aE aP))) .pass)) (.seq (.ret (bJ .tup (bR "") cB)) .pass))))))⟩
def xK:aM:=⟨4,7,(.seq (.ifs (cw .NotIn aE (bJ .lst (bR "lower") (bR "upper"))) (.seq (.ret (bJ .tup (bR "BadSide") (.lit .bf))) .pass) .pass) (.seq (.set 4 (.call 201 (dN aq aE aP))) (.seq (.ifs (cw .Eq (cj .len cB) (aQ 0)) (.seq (.ret (bJ .tup (bR "NoDie") (.lit .bf))) .pass) .pass) (.seq (.ifs (.cV (.dU (cj .all (.comp [4] 3 (.one 2) (.eR bh) .no (bJ (.cmp .In) aP aq))))) (.seq (.ret (bJ .tup (bR "NoCoin") (.lit .bf))) .pass) .pass) (.seq (.ifs (.gC (cw .Eq (cj .len bh) (aQ 0)) (.gC (cw .Lt (cj .V8 bh) (cj .len bh)) (cw .Eq (cj .len bh) (cj .len cB)))) (.seq (.ret (bJ .tup (bR "BadList") (.lit .bf))) .pass) .pass) (.seq (.set 6 (bp (.comp [0,1] 4 (.one 3) (.iW (aQ 1) (aQ 12)) (cw .Eq (cj .len (.call 201 (dN aq aE bh))) (aQ 0)) bh) (aQ 0))) (.seq (.eM (.one 5) (.eR bh) (.seq (.cN (bp aq (bR "coins")) dR (.call 200 (dN (bp (bp aq (bR "coins")) dR) aE fE))) .pass)) (.seq (.ret (bJ .tup (bR "") fE)) .pass))))))))⟩
def wZ:aM:=⟨3,4,(.seq (.set 3 (.ite (cw .Eq aP (bR "lower")) (aQ 0) (aQ 2))) (.seq (.ret (.call 37 (cS aq (cj .sset (.comp [3] 3 (.one 2) (.eR (.call 196 (cC aE))) .no (bp aP aq)))))) .pass))⟩
def E0(qc qf gv lr:Nat):List (Key×D):=[(.inr "coins",.ref qc),(.inr "facts",.ref qf),(.inr "given",.int (gv:Nat)),(.inr "learnt",.int (lr:Nat))]
theorem H9:I9 (E0 qc qf gv lr) (.inr "coins")=some (.ref qc):=rfl
theorem om:I9 (E0 qc qf gv lr) (.inr "facts")=some (.ref qf):=rfl
theorem CA:I9 (E0 qc qf gv lr) (.inr "given")=some (.int (gv:Nat)):=rfl
theorem Rn{x:Nat}:putD (E0 qc qf gv lr) (.inr "given") (.int (x:Nat))=E0 qc qf x lr:=rfl
structure hV(g:G)(q qc qf gv lr:Nat)(hs:Hs)(fs:Fs):Prop where
 b:g[q]?=some (.bO (E0 qc qf gv lr))
 c:g[qc]?=some (.bO (fP hs))
 f:g[qf]?=some (.bO (gK fs))
theorem hV.at{g g':G}{q qc qf gv lr:Nat}{hs:Hs}{fs:Fs}(B:hV g q qc qf gv lr hs fs)(e:Ex g g'):hV g' q qc qf gv lr hs fs:=⟨e.at B.b,e.at B.c,e.at B.f⟩
def fX(x:Str):Int:=if x="lower" then 0 else 2
theorem ER(x:Str):fX x=0\/fX x=2:=by unfold fX;split<;>simp
theorem rP(hw:w≠.eN):fX w.s=bW w:=by
 cases w with
 |eN=>exact absurd rfl hw
 |lower=>rfl
 |upper=>rfl
structure TD(T:Nat->Option aM):Prop where
 h4:T 4=some M6
 h5:T 5=some qz
 Lp:T 36=some BR
 Lo:T 37=some Bo
 h8:T 8=some V5
 wk:T 13=some P5
 zR:T 195=some Ax
 zQ:T 196=some AZ
 zP:T 197=some BQ
 zM:T 200=some Bp
 zL:T 201=some Aw
 uk:T 202=some xJ
 uj:T 203=some xK
section
variable{T:Nat->Option aM}{d:Nat}{c:Nat}
theorem EZ(hT:TD T)(hj:0<=j/\j<=1000)(D0:k9 g d)(h:∀(v:Int) g',k9 g' d->Gr d g g'->Q (.int v) g'):a8 T (k+3) 36 [.ref d,.int j] g Q E:=by
 refine call_of hT.Lp rfl ?_;dsimp[BR,a9,List.replicate];walk_at"";refine j8 (k:=k+1) hT.h4 D0 (by decide) (by decide) λr g1 _ _ D1 G1=>?_;walk_at"";refine if2 (λ_=>?_) (λ_=>?_)
 ·walk_at"";exact Cf (k:=k) hT.h4 hT.h5 D1 λr g2 D2 G2=>h r g2 D2 (G1.trans G2)
 ·walk_at"";refine j8 (k:=k+1) hT.h4 D1 (by omega) (by omega) λr g2 _ _ D2 G2=>?_;walk_at"";exact h _ _ D2 (G1.trans G2)
theorem AN(hT:TD T)(hi:g[i]?=some (.lst (ns.map .int)))(hd:d<i)(hz:ns.length<=100)(D0:k9 g d)(h:∀(v:Int) g',k9 g' d->Gr d g g'->Q (.int v) g'):a8 T (k+4) 37 [.ref d,.ref i] g Q E:=by
 refine call_of hT.Lo rfl ?_;dsimp[Bo,a9,List.replicate];walk_at"";rw[ao];refine if2 (λ_=>?_) (λc1=>?_)
 ·refine fm rfl ?_;walk_at"";refine EZ (k:=k) hT (by rw[ao];omega) D0 λv g2 D2 G2=>?_;exact h v g2 D2 G2
 walk_at"";refine j8 hT.h4 D0 (by decide) (by decide) λr g1 _ _ D1 G1=>?_;have KL:=G1.at (by omega) hi;walk_at"";refine if2 (λ_=>?_) (λ_=>?_)
 ·walk_at"";refine EZ (k:=k) hT (by rw[ao];omega) D1 λv g2 D2 G2=>?_;exact h v g2 D2 (G1.trans G2)
 ·walk_at"";rw[ao];refine j8 hT.h4 D1 (by omega) (by omega) λr2 g2 r0 r1 D2 G2=>?_;obtain⟨y,hy,hm⟩:=A8 (l:=ns.map D.int) r0 (by rw[ao];exact r1);obtain⟨v,_,rfl⟩:=au.mp hm;refine K0 (a7 (G2.at (by omega) KL)) hy ?_;walk_at"";exact h v g2 D2 (G1.trans G2)
theorem Y3(hs:Hs):((fP hs).map (·.1)).map kD=b7 (nums hs):=by
 simp[fP,nums,b7,kD]
theorem Bw(fs:Fs):((gK fs).map (·.1)).map kD=b7 (nums fs):=by
 simp[gK,nums,b7,kD]
theorem D9(ha:g[a]?=some (.lst (b7 l)))(inc:fZ l)(hz:l.length<=50)(h:Q (.ref g.length) (g++[.lst (b7 l)])):cK .eK [.ref a] g Q:=by
 rw[N3] at ha h;refine NX (a7 ha) (by simp;omega) ?_;rw[ZL inc];exact h
theorem Z6(hT:TD T)(B:hV g q qc qf gv lr hs fs)(inc:fZ (nums hs))(hz:hs.length<=50)(h:∀g' r,Ex g g'->g.length<=r->g'[r]?=some (.lst ((i9 hs).map c8.d))->Q (.ref r) g'):a8 T (k+1) 196 [.ref q] g Q E:=by
 refine call_of hT.zQ rfl ?_;dsimp[AZ,a9,List.replicate];walk_at"";refine M4 (α:=Nat×c8) (b0 T _) (km (b0 T _) ?_);walk_at"";refine k7 B.b rfl H9 ?_;walk_at"";refine qN B.c (by simp[fP];omega) ?_;rw[Y3];walk_at"";refine D9 c7 inc (by rw[M7];exact hz) ?_;have e1:=(Ex.snoc g (O.lst (b7 (nums hs)))).trans (Ex.snoc _ (O.lst (b7 (nums hs))));refine⟨_,_,rfl,a7 c7,hs,λp=>.int (p.1:Nat),λZ=>∃z1 z2,Z=[some (.ref q),z1,z2],λ_=>true,λp=>p.2.d,λg' e=>w6 (a7 ?_),by omega,⟨none,none,rfl⟩,λp Z g' hp e sh=>?_,λg' e=>?_⟩
 ·rw[show hs.map (λp=>D.int (p.1:Nat))=b7 (nums hs) by simp[b7,nums]];exact e.at c7
 ·obtain⟨z1,z2,rfl⟩:=sh;refine p6 (Q7 ⟨rfl,e,js ?_⟩);walk_at"";have B':=(B.at e1).at e;refine k7 B'.b rfl H9 ?_;walk_at"";exact k7 B'.c rfl (m6 (f:=c8.d) inc hp) ⟨rfl,e,_,_,rfl⟩
 ·rw[K4];refine h _ _ ((e1.trans e).trans (Ex.snoc _ _)) (e1.trans e).len ?_;rw[i9,bj];exact c7
theorem vf(hT:TD T)(B:hV g q qc qf gv lr hs fs)(inc:fZ (nums hs))(hz:hs.length<=50)(h:∀g' r,Ex g g'->g.length<=r->g'[r]?=some (.lst (b7 (numsOf hs (fX x) v)))->Q (.ref r) g'):a8 T (k+1) 201 [.ref q,.str x,.int v] g Q E:=by
 refine call_of hT.zL rfl ?_;dsimp[Aw,a9,List.replicate];have rest:aS (a8 T k) (.comp [3,0,2] 5 (.one 4) (.eR (.prim .eK (.cons (.prim .list (.cons (.prim .ix (.cons (.var 0) (.cons (.lit (.str "coins")) .nil))) .nil)) .nil))) (.dU (.prim (.cmp .Eq) (.cons (.prim .ix (.cons (.prim .ix (.cons (.prim .ix (.cons (.var 1) (.cons (.lit (.str "coins")) .nil))) (.cons (.var 4) .nil))) (.cons (.var 0) .nil))) (.cons (.var 2) .nil)))) (.var 4)) [some (.ref q),some (.str x),some (.int v),some (.int (fX x))] g Q E:=by
  refine M4 (α:=Nat×c8) (b0 T _) (km (b0 T _) ?_);walk_at"";refine k7 B.b rfl H9 ?_;walk_at"";refine qN B.c (by simp[fP];omega) ?_;rw[Y3];walk_at"";refine D9 c7 inc (by rw[M7];exact hz) ?_;have e1:=(Ex.snoc g (O.lst (b7 (nums hs)))).trans (Ex.snoc _ (O.lst (b7 (nums hs))));refine⟨_,_,rfl,a7 c7,hs,λp=>.int (p.1:Nat),λZ=>∃z3 z4,Z=[some (.int (fX x)),some (.ref q),some (.int v),z3,z4],λp=>decide (K5 (fX x) p.2=v),λp=>.int (p.1:Nat),λg' e=>w6 (a7 ?_),by omega,⟨none,none,rfl⟩,λp Z g' hp e sh=>?_,λg' e=>?_⟩
  ·rw[show hs.map (λp=>D.int (p.1:Nat))=b7 (nums hs) by simp[b7,nums]];exact e.at c7
  ·obtain⟨z3,z4,rfl⟩:=sh;refine p6 ?_
   try show dw _ _ _ _ _ _
   walk_at"";have B':=(B.at e1).at e;refine k7 B'.b rfl H9 ?_;walk_at"";refine k7 B'.c rfl (m6 (f:=c8.d) inc hp) ?_;walk_at"";refine Q1 (uX (ER x) p.2) ?_;walk_at"";refine⟨rfl,e,?_⟩;refine if2 (λ_=>?_) (λ_=>?_)
   ·walk_at"";exact⟨rfl,e,_,_,rfl⟩
   ·exact⟨_,_,rfl⟩
  ·refine h _ _ ((e1.trans e).trans (Ex.snoc _ _)) (e1.trans e).len ?_;rw[numsOf,b7,bj];exact c7
 walk_at"";refine if2 (λc1=>?_) (λc1=>?_)
 ·rw[show fX x=0 from aG c1] at rest;exact w_lit rest
 ·rw[show fX x=2 from az c1] at rest;exact w_lit rest
theorem Zf(hT:TD T){c:c8}(h:∀g',Ex g g'->Q (c.re (fX x) v).d g'):a8 T (k+1) 200 [c.d,.str x,.int v] g Q E:=by
 refine call_of hT.zM rfl ?_;dsimp[Bp,a9,List.replicate,c8.d];walk_at"";have gs:=c7 (g:=g) (o:=O.lst [D.int c.lo,D.tup (c.lm.map .int),D.int c.up,D.tup (c.um.map .int),D.int c.yr]);have fin:∀l:List D,Ex g ((g++[O.lst [D.int c.lo,D.tup (c.lm.map .int),D.int c.up,D.tup (c.um.map .int),D.int c.yr]]).set g.length (.lst l)):=λl=>⟨by simp,λi hi=>by rw[aR (by omega),aH hi]⟩
 refine if2 (λc1=>?_) (λc1=>?_)
 ·rw[show fX x=0 from aG c1] at h;walk_at"";refine X7 gs (n:=0) rfl ?_;have g2:=get_set gs (o':=O.lst ([D.int c.lo,D.tup (c.lm.map .int),D.int c.up,D.tup (c.um.map .int),D.int c.yr].set 0 (.int v)));walk_at"";exact h _ (fin _)
 ·rw[show fX x=2 from az c1] at h;walk_at"";refine X7 gs (n:=2) rfl ?_;have g2:=get_set gs (o':=O.lst ([D.int c.lo,D.tup (c.lm.map .int),D.int c.up,D.tup (c.um.map .int),D.int c.yr].set 2 (.int v)));walk_at"";exact h _ (fin _)
theorem FY(hT:TD T){i3 i6:Nat}(B:hV g q qc qf gv lr hs fs)(inc:fZ (nums hs))(hz:hs.length<=50){ns:List Nat}(ha:g[a]?=some (.lst (b7 ns)))(hn:∀n∈ns,n∈nums hs)(n1:a≠qc)(n2:q≠qc)(n3:qf≠qc)(s0:∀y,(Z.set 5 y)[0]?=some (some (.ref q)))(s1:∀y,(Z.set 5 y)[1]?=some (some (.str x)))(s3:Z[i3]?=some (some (.ref a)))(s6:∀y,(Z.set 5 y)[i6]?=some (some (.int v)))(s5:∀y,(Z.set 5 y)[5]?=some y)(h:∀g' y,Gr qc g g'->hV g' q qc qf gv lr (l0 hs ns (fX x) v) fs->N.nx (Z.set 5 y) g')(h0:ns=[]->∀g',Gr qc g g'->hV g' q qc qf gv lr hs fs->N.nx Z g'):wpS (a8 T (k+1)) (.eM (.one 5) (.eR (.var i3)) (.seq (.cN (.prim .ix (.cons (.var 0) (.cons (.lit (.str "coins")) .nil))) (.var 5) (.call 200 (.cons (.prim .ix (.cons (.prim .ix (.cons (.var 0) (.cons (.lit (.str "coins")) .nil))) (.cons (.var 5) .nil))) (.cons (.var 1) (.cons (.var i6) .nil))))) .pass)) N Z g E:=by
 refine qQ (b0 T _) (km (b0 T _) (w_var s3 ?_));refine⟨a,_,rfl,a7 ha,b7 ns,λi bI g'=>(bI=Z/\i=0\/0<i/\∃y,bI=Z.set 5 y)/\Gr qc g g'/\hV g' q qc qf gv lr (l0 hs (ns.take i) (fX x) v) fs,λi Z g' q=>w6 (a7 (q.2.1.at n1 ha)),⟨.inl ⟨rfl,rfl⟩,Gr.refl _ _,?_⟩,λi y bI g' hx q'=>?_,λbI g' q'=>?_⟩
 ·have:l0 hs (ns.take 0) (fX x) v=hs:=by
   unfold l0
   conv=>rhs;rw[<- xW hs]
   exact bV λp _=>by simp
  rw[this];exact B
 ·obtain⟨vS,G1,B1⟩:=q';rw[b7,aB,ae] at hx;obtain⟨n,hx,rfl⟩:=hx;refine p6 ?_;have LD:bI.set 5 (some (.int (n:Nat)))=Z.set 5 (some (.int (n:Nat))):=by
   rcases vS with⟨rfl,_⟩|⟨_,y,rfl⟩
   ·rfl
   ·rw[kf]
  rw[LD];have hm:=hn n (bg hx);have lg:n∈nums (l0 hs (ns.take i) (fX x) v):=by rw[E8];exact hm
  have jr:fZ (nums (l0 hs (ns.take i) (fX x) v)):=by rw[E8];exact inc
  obtain⟨p,hp,yP⟩:=au.mp lg;have fI:(n,p.2)∈l0 hs (ns.take i) (fX x) v:=by rw[<- yP];exact hp
  refine Ct (Ic (Cr (sy (oo (oo (w_var (s0 _) (w_lit ?_)))))));refine k7 B1.b rfl H9 (w_var (s5 _) ?_);refine k7 B1.c rfl (m6 (f:=c8.d) jr fI) ?_;refine sy (w_var (s1 _) (sy (w_var (s6 _) (BZ ?_))));refine Zf (k:=k) hT λg2 e2=>?_;have B2:=B1.at e2;refine oo (w_var (s0 _) (w_lit (k7 B2.b rfl H9 ?_)));refine w_var (s5 _) ?_;refine Q8 B2.c rfl (by simp[fP,l0];omega) ?_;rw[xc lg,FX inc fI];refine⟨.inr ⟨Nat.succ_pos _,_,rfl⟩,(G1.trans (e2.gr qc)).trans (Gr.set _ _ _),d8 B2.b (aZ n2),?_,d8 B2.f (aZ n3)⟩;rw[show ns.take (i+1)=ns.take i++[n] by rw[cE,hx];rfl];exact get_set B2.c
 ·obtain⟨vS,G1,B1⟩:=q';rw[b7,ao] at vS;rw[b7,ao,cL] at B1;rcases vS with⟨rfl,z⟩|⟨_,y,rfl⟩
  ·have z':ns=[]:=bu z;subst z';have:l0 hs [] (fX x) v=hs:=by
    unfold l0
    conv=>rhs;rw[<- xW hs]
    exact bV λp _=>by simp
   rw[this] at B1;exact h0 rfl _ G1 B1
  ·exact h _ _ G1 B1
end
section
variable{T:Nat->Option aM}{d:Nat}{c:Nat}
theorem xo(hw:w≠.eN):PyData.strOk w.s=true/\(decide (w.s="lower")||decide (w.s="upper"))=true:=by
 cases w with
 |eN=>exact absurd rfl hw
 |lower=>decide +kernel
 |upper=>decide +kernel
theorem Po(hT:TD T)(hw:w≠.eN)(B:hV g q qc qf gv lr hs fs)(O1:iB hs)(n2:q≠qc)(n3:qf≠qc)(hn:y9 hs (bW w) v u≠""->∀g',Ex g g'->Q (.tup [.str (y9 hs (bW w) v u),.bf]) g')(h:y9 hs (bW w) v u=""->∀g' r,Gr qc g g'->g.length<=r->g'[r]?=some (.lst (b7 (numsOf hs (bW w) u)))->hV g' q qc qf gv lr (l0 hs (numsOf hs (bW w) u) (bW w) v) fs->Q (.tup [.str "",.ref r]) g'):a8 T (k+2) 202 [.ref q,.str w.s,.int v,.int u] g Q E:=by
 have hz:=O1.len;refine call_of hT.uk rfl ?_;dsimp[xJ,a9,List.replicate];walk_at"";refine J8 (Y7 c7 (xo hw).1 ?_);rw[(xo hw).2];walk_at"";have e1:=Ex.snoc g (O.lst [D.str "lower",D.str "upper"]);refine vf (k:=k) hT (B.at e1) O1.inc (by omega) λg2 r2 e2 l2 la=>?_;rw[rP hw] at la;have jw:=e1.trans e2;walk_at"";have fin:∀g3,Ex g g3->(numsOf hs (bW w) v=[]\/numsOf hs (bW w) u=[])->Q (.tup [.str "NoDie",.bf]) g3:=λg3 e3 z=>by
  have:y9 hs (bW w) v u="NoDie":=by unfold y9;rw[aG z]
  rw[this] at hn;exact hn (by decide +kernel) _ e3
 have li:∀l:List Nat,(b7 l).length=l.length:=λl=>by simp[b7]
 rw[li];by_cases d2:numsOf hs (bW w) u=[]
 ·refine fm (by rw[d2];rfl) ?_;walk_at"";exact fin _ jw (.inr d2)
 refine fj (ax (λz=>d2 (bu (by omega)))) ?_;walk_at"";refine vf (k:=k) hT (B.at jw) O1.inc (by omega) λg3 r3 e3 l3 mS=>?_;rw[rP hw] at mS;have jv:=jw.trans e3;walk_at"";rw[li];by_cases d1:numsOf hs (bW w) v=[]
 ·refine fm (by rw[d1];rfl) ?_;walk_at"";exact fin _ jv (.inl d1)
 refine fj (ax (λz=>d1 (bu (by omega)))) ?_;walk_at"";refine if2 (λpS=>?_) (λpS=>?_)
 ·have:y9 hs (bW w) v u="SameOne":=by unfold y9;rw[az (λz=>z.elim d1 d2),aG pS]
  rw[this] at hn;walk_at"";exact hn (by decide +kernel) _ jv
 ·have this:y9 hs (bW w) v u="":=by unfold y9;rw[az (λz=>z.elim d1 d2),az pS]
  have lc:=m8 B.c;have B3:=B.at jv;have Dt:=e3.at la;have l1:=e1.len;walk_at"";refine FY (k:=k) (a:=r2) (x:=w.s) (v:=v) hT B3 O1.inc (by omega) Dt (λn hn=>T6 hn) (by omega) n2 n3 (λ_=>rfl) (λ_=>rfl) rfl (λ_=>rfl) (λ_=>rfl) (λg4 y G4 B4=>?_) (λz=>absurd z d2);rw[rP hw] at B4
  try show wpS _ _ _ _ _ _
  walk_at"";exact h this _ _ ⟨by have:=jv.len;have:=G4.len;omega,λi h1 h2=>(G4.old i h1 (ak h2 jv.len)).trans (jv.old i h2)⟩ (by omega) (G4.at (by omega) Dt) B4
theorem UK(hT:TD T)(ho:PyData.strOk x=true)(h1:x≠"lower")(h2:x≠"upper")(h:∀g',Ex g g'->Q (.tup [.str "BadSide",.bf]) g'):a8 T (k+2) 202 [.ref q,.str x,.int v,.int u] g Q E:=by
 refine call_of hT.uk rfl ?_;dsimp[xJ,a9,List.replicate];walk_at"";refine J8 (Y7 c7 ho ?_);rw[ax h1,ax h2];walk_at"";refine fm rfl ?_;walk_at"";exact h _ (Ex.snoc _ _)
theorem UL(hT:TD T)(ho:PyData.strOk x=true)(h1:x≠"lower")(h2:x≠"upper")(h:∀g',Ex g g'->Q (.tup [.str "BadSide",.bf]) g'):a8 T (k+2) 203 [.ref q,.str x,.int v,.ref a] g Q E:=by
 refine call_of hT.uj rfl ?_;dsimp[xK,a9,List.replicate];walk_at"";refine J8 (Y7 c7 ho ?_);rw[ax h1,ax h2];walk_at"";refine fm rfl ?_;walk_at"";exact h _ (Ex.snoc _ _)
theorem Xu{p:Nat->Bool}{j:Nat}(hj:j<n)(hp:p j=true)(hl:∀i,i<j->p i=false):((List.range n).filter p)[0]?=some j:=by
 rw[<- List.head?_eq_getElem?,List.head?_filter,List.find?_range_eq_some];exact⟨hp,dP.mpr hj,λi hi=>by rw[hl i hi];rfl⟩
theorem Z'(ns:List Int):(ST.f9 [] ns).length<=ns.length:=by simpa using ST.L4 ns []
theorem Pp(hT:TD T)(hw:w≠.eN)(B:hV g q qc qf gv lr hs fs)(O1:iB hs)(n2:q≠qc)(n3:qf≠qc)(ha:g[a]?=some (.lst (ns.map .int)))(hl:ns.length<=50)(n1:a≠qc){F:Int}(hF:nV (L1 hs (bW w)) F)(hn:z9 hs (bW w) v ns≠""->∀g',Ex g g'->Q (.tup [.str (z9 hs (bW w) v ns),.bf]) g')(h:z9 hs (bW w) v ns=""->∀g',Gr qc g g'->hV g' q qc qf gv lr (l0 hs (ns.map Int.toNat) (bW w) F) fs->Q (.tup [.str "",.int F]) g'):a8 T (k+2) 203 [.ref q,.str w.s,.int v,.ref a] g Q E:=by
 have hz:=O1.len;refine call_of hT.uj rfl ?_;dsimp[xK,a9,List.replicate];walk_at"";refine J8 (Y7 c7 (xo hw).1 ?_);rw[(xo hw).2];walk_at"";have e1:=Ex.snoc g (O.lst [D.str "lower",D.str "upper"]);refine vf (k:=k) hT (B.at e1) O1.inc (by omega) λg2 r2 e2 l2 la=>?_;rw[rP hw] at la;have jw:=e1.trans e2;have li:∀l:List Nat,(b7 l).length=l.length:=λl=>by simp[b7]
 walk_at"";rw[li];by_cases d1:numsOf hs (bW w) v=[]
 ·refine fm (by rw[d1];rfl) ?_;walk_at"";have:z9 hs (bW w) v ns="NoDie":=by unfold z9;rw[aG d1]
  rw[this] at hn;exact hn (by decide +kernel) _ jw
 refine fj (ax (λz=>d1 (bu (by omega)))) ?_;have a2:=jw.at ha;rw[N3] at la;walk_at"";refine M4 (α:=Int) (b0 T _) (FE (b0 T _) (a7 a2) (λQ q=>w_var (d:=.ref a) rfl q) _ ?_);refine⟨ns,D.int,λZ=>∃z1 z2,Z=[some (.ref r2),z1,z2],λ_=>true,λn=>.bl (decide (n∈(numsOf hs (bW w) v).map λn:Nat=>(n:Int))),λg' e=>w6 (a7 (e.at a2)),by omega,⟨none,none,rfl⟩,λn Z g' hp e sh=>?_,λg3 e3=>?_⟩
 ·obtain⟨z1,z2,rfl⟩:=sh;refine p6 (Q7 ⟨rfl,e,js ?_⟩);walk_at"";refine rL (Q2 (a7 (e.at la)) ?_);exact⟨rfl,e,_,_,rfl⟩
 rw[K4];have e4:=(jw.trans e3).trans (Ex.snoc g3 (O.lst (ns.map λn=>D.bl (decide (n∈(numsOf hs (bW w) v).map λn:Nat=>(n:Int))))));have LB:=e3.trans (Ex.snoc g3 (O.lst (ns.map λn=>D.bl (decide (n∈(numsOf hs (bW w) v).map λn:Nat=>(n:Int))))));refine BJ (v:=ns.all λn=>decide (n∈(numsOf hs (bW w) v).map λn:Nat=>(n:Int))) (a7 c7) (by rw[show ns.map (λn=>D.bl (decide (n∈(numsOf hs (bW w) v).map λn:Nat=>(n:Int))))=(ns.map λn=>decide (n∈(numsOf hs (bW w) v).map λn:Nat=>(n:Int))).map D.bl by rw[bj];rfl,Bi,List.all_map];rfl) ?_;generalize g3++[O.lst (ns.map λn=>D.bl (decide (n∈(numsOf hs (bW w) v).map λn:Nat=>(n:Int))))]=g4 at *;walk_at"";cases jS:ns.all λn=>decide (n∈(numsOf hs (bW w) v).map λn:Nat=>(n:Int)) with
 |false =>
  refine fm rfl ?_;walk_at"";have:z9 hs (bW w) v ns="NoCoin":=by unfold z9;rw[az d1,az (by rw[jS];decide)]
  rw[this] at hn;exact hn (by decide +kernel) _ e4
 |true =>
  refine fj rfl ?_;have a4:=e4.at ha;have r4:=LB.at la;have lm:(ns.map D.int).length=ns.length:=by simp
  have lr:(((numsOf hs (bW w) v).map λn:Nat=>(n:Int)).map D.int).length=(numsOf hs (bW w) v).length:=by simp
  have ale:=Z' ns;have bad:L9 hs (bW w) v ns=true->Q (.tup [.str "BadList",.bf]) g4:=λz=>by
   have:z9 hs (bW w) v ns="BadList":=by unfold z9;rw[az d1,aG jS,aG z]
   rw[this] at hn;exact hn (by decide +kernel) _ e4
  have good:L9 hs (bW w) v ns=false->z9 hs (bW w) v ns="":=λz=>by unfold z9;rw[az d1,aG jS,az (by rw[z];decide)]
  walk_at"";rw[lm];by_cases c1:ns.length=0
  ·refine fm (aL (by omega)) ?_;walk_at"";exact bad (by unfold L9;simp[c1])
  refine fj (ax (by omega)) ?_;walk_at"";refine IT (a7 a4) (by omega) ?_;walk_at"";rw[lm];by_cases c2:(ST.f9 [] ns).length=ns.length
  ·refine fj (ax (by omega)) ?_;walk_at"";rw[lm,lr];by_cases c3:ns.length=(numsOf hs (bW w) v).length
   ·refine fm (aL (by omega)) ?_;walk_at"";exact bad (by unfold L9;simp[c3])
   refine fj (ax (by omega)) ?_;have b1:L9 hs (bW w) v ns=false:=by
    unfold L9;rw[ax (by omega),ax (by omega),ax (by omega)]
    rfl
   have B4:=B.at e4;walk_at"";refine M4 (α:=Nat) (b0 T _) (QP (b0 T _) ?_);walk_at"";refine⟨1,12,rfl,rfl,⟨by decide,by decide,by decide,by decide⟩,List.range 11,λj=>.int (1+(j:Int)),λZ=>∃z2 z3,Z=[some (.ref q),some (.str w.s),z2,z3],λj=>decide (numsOf hs (bW w) (1+(j:Int))=[]),λj=>.int (1+(j:Int)),λ_ _=>S1,by decide,⟨none,none,rfl⟩,λj Z g' hj e sh=>?_,λg5 e5=>?_⟩
   ·obtain⟨z2,z3,rfl⟩:=sh;refine p6 ?_
    try show dw _ _ _ _ _ _
    walk_at"";refine vf (k:=k) hT (B4.at e) O1.inc (by omega) λg6 r6 e6 l6 Kr=>?_;rw[rP hw] at Kr;walk_at"";rw[li];have ee:decide (((numsOf hs (bW w) (1+(j:Int))).length:Int)=0)=decide (numsOf hs (bW w) (1+(j:Int))=[]):=decide_eq_decide.mpr ⟨λz=>bu (by omega),λz=>by rw[z];rfl⟩;refine⟨ee,e.trans e6,?_⟩;refine if2 (λ_=>?_) (λ_=>?_)
    ·walk_at"";exact⟨rfl,e.trans e6,_,_,rfl⟩
    ·exact⟨_,_,rfl⟩
   have Lj:=hF.le;have hFp:=hF.pos;have dl:(L1 hs (bW w)).length<=9:=by simpa[L1,i9] using hz
   have ff:=Xu (p:=λj:Nat=>decide (numsOf hs (bW w) (1 + (j:Int))=[])) (n:=11) (j:=(F - 1).toNat) (by omega) (aL (by
    rw[show 1+(((F-1).toNat:Nat):Int)=F by omega];exact ou λz=>hF.no (Bj.mpr z))) (λi hi=>ax (Bj.mp (hF.all _ (by omega) (by omega))))
   have e6:=e5.trans (Ex.snoc g5 (O.lst (((List.range 11).filter λj:Nat=>decide (numsOf hs (bW w) (1+(j:Int))=[])).map λj:Nat=>D.int (1+(j:Int)))));walk_at"";refine K0 (d:=.int F) (a7 c7) (ve (j:=0) (by rw[aB,ff];simp;omega)) ?_;generalize g5++[O.lst (((List.range 11).filter λj:Nat=>decide (numsOf hs (bW w) (1+(j:Int))=[])).map λj:Nat=>D.int (1+(j:Int)))]=g6 at *;have mZ:=e4.trans e6;have tL:∀n∈ns,∃j∈numsOf hs (bW w) v,n=(j:Nat):=λn hx=>by
    obtain⟨j,hj,e⟩:=au.mp (aN (cg.mp jS n hx));exact⟨j,hj,e.symm⟩
   have en:ns.map D.int=b7 (ns.map Int.toNat):=by
    rw[b7,bj];refine bV λn hx=>?_;obtain⟨j,_,rfl⟩:=tL n hx;simp
   have a6:=mZ.at ha;rw[en] at a6;walk_at"";refine FY (k:=k) (a:=a) (x:=w.s) (v:=F) hT (B.at mZ) O1.inc (by omega) a6 (λn hx=>?_) n1 n2 n3 (λ_=>rfl) (λ_=>rfl) rfl (λ_=>rfl) (λ_=>rfl) (λg7 y G7 B7=>?_) (λz=>?_)
   ·obtain⟨i,hi,rfl⟩:=au.mp hx;obtain⟨j,hj,rfl⟩:=tL i hi;exact T6 (by simpa using hj)
   ·rw[rP hw] at B7
    try show wpS _ _ _ _ _ _
    walk_at"";exact h (good b1) _ ⟨by have:=mZ.len;have:=G7.len;omega,λi h1 h2=>(G7.old i h1 (ak h2 mZ.len)).trans (mZ.old i h2)⟩ B7
   ·have:ns.length=0:=by simpa using dE List.length z
    exact absurd this c1
  ·refine fm (aL (by omega)) ?_;walk_at"";exact bad (by unfold L9;simp[c2])
end
def BP:aM:=⟨2,3,(.seq (.ifs (cw .NotIn aE (bp aq (bR "coins"))) (.seq (.ret (bJ .tup (bR "NoCoin") (.lit .bf))) .pass) .pass) (.seq (.eM (.one 2) (.eR (cj .eK (cj .list (bp aq (bR "facts"))))) (.seq (.ifs (cw .In aE (bp (bp aq (bR "facts")) aP)) (.seq (.expr (.eL .iM (bp aq (bR "facts")) (cC aP))) .pass) .pass) .pass)) (.seq (.ret (bJ .tup (bR "") (.eL .iM (bp aq (bR "coins")) (cC aE)))) .pass)))⟩
def Cj:aM:=⟨3,3,(.seq (.ifs (.gC (cw .NotIn aE (bp aq (bR "coins"))) (cw .NotIn aP (bp aq (bR "coins")))) (.seq (.ret (bJ .tup (bR "NoCoin") (.lit .bf))) .pass) .pass) (.seq (.ifs (cw .Eq aE aP) (.seq (.ret (bJ .tup (bR "SameOne") (.lit .bf))) .pass) .pass) (.seq (.cN aq (bR "learnt") (bJ (.bin .Add) (bp aq (bR "learnt")) (aQ 1))) (.seq (.cN (bp aq (bR "facts")) (bp aq (bR "learnt")) (bJ .tup aE aP)) (.seq (.ret (bJ .tup (bR "") (bp aq (bR "learnt")))) .pass)))))⟩
def oh:aM:=⟨2,4,(.seq (.set 2 (bp aE (aQ 0))) (.seq (.ifs (cw .Eq aP (bR "put")) (.seq (.ret (.call 197 (cS aq (bp aE (aQ 1))))) .pass) .pass) (.seq (.ifs (cw .Eq aP (bR "right")) (.seq (.ifs (cw .NotIn (bp aE (aQ 1)) (bp aq (bR "coins"))) (.seq (.ret (bJ .tup (bR "NoCoin") (.lit .bf))) .pass) .pass) (.seq (.ifs (.cV (.dU (.call 13 (cC (bp aE (aQ 2)))))) (.seq (.ret (bJ .tup (bR "BadCoin") (.lit .bf))) .pass) .pass) (.seq (.set 3 (bp (bp aq (bR "coins")) (bp aE (aQ 1)))) (.seq (.cN (bp aq (bR "coins")) (bp aE (aQ 1)) (bp aE (aQ 2))) (.seq (.ret (bJ .tup (bR "") bh)) .pass))))) .pass) (.seq (.ifs (cw .Eq aP (bR "out")) (.seq (.ret (.call 198 (cS aq (bp aE (aQ 1))))) .pass) .pass) (.seq (.ifs (cw .Eq aP (bR "tell")) (.seq (.ret (.call 199 (dN aq (bp aE (aQ 1)) (bp aE (aQ 2))))) .pass) .pass) (.seq (.ifs (cw .Eq aP (bR "untell")) (.seq (.ifs (cw .NotIn (bp aE (aQ 1)) (bp aq (bR "facts"))) (.seq (.ret (bJ .tup (bR "NoFact") (.lit .bf))) .pass) .pass) (.seq (.ret (bJ .tup (bR "") (.eL .iM (bp aq (bR "facts")) (cC (bp aE (aQ 1)))))) .pass)) .pass) (.seq (.ifs (cw .Eq aP (bR "one")) (.seq (.ret (.call 202 (lQ aq (bp aE (aQ 1)) (bp aE (aQ 2)) (bp aE (aQ 3))))) .pass) .pass) (.seq (.ret (.call 203 (lQ aq (bp aE (aQ 1)) (bp aE (aQ 2)) (bp aE (aQ 3))))) .pass))))))))⟩
def z6:aM:=⟨2,3,(.seq (.set 2 (bp aE (aQ 0))) (.seq (.ifs (cw .Eq aP (bR "put")) (.seq (.ret (.bx "put" [("Cabinet",214)] aq (cC (bp aE (aQ 1))))) .pass) .pass) (.seq (.ifs (cw .Eq aP (bR "right")) (.seq (.ret (.bx "right" [("Cabinet",215)] aq (cS (bp aE (aQ 1)) (bp aE (aQ 2))))) .pass) .pass) (.seq (.ifs (cw .Eq aP (bR "out")) (.seq (.ret (.bx "out" [("Cabinet",216)] aq (cC (bp aE (aQ 1))))) .pass) .pass) (.seq (.ifs (cw .Eq aP (bR "tell")) (.seq (.ret (.bx "tell" [("Cabinet",217)] aq (cS (bp aE (aQ 1)) (bp aE (aQ 2))))) .pass) .pass) (.seq (.ifs (cw .Eq aP (bR "untell")) (.seq (.ret (.bx "untell" [("Cabinet",218)] aq (cC (bp aE (aQ 1))))) .pass) .pass) (.seq (.ifs (cw .Eq aP (bR "one")) (.seq (.ret (.bx "one_die" [("Cabinet",219)] aq (dN (bp aE (aQ 1)) (bp aE (aQ 2)) (bp aE (aQ 3))))) .pass) .pass) (.seq (.ret (.bx "two_dies" [("Cabinet",220)] aq (dN (bp aE (aQ 1)) (bp aE (aQ 2)) (cj .list (bp aE (aQ 3)))))) .pass))))))))⟩
def Ba:aM:=⟨2,6,(.seq (.set 2 (.call 196 (cC aE))) (.seq (.ifs (.gC (cw .Eq (cj .len aP) (aQ 0)) (cw .Eq (.call 4 (cS aq (aQ 3))) (aQ 0))) (.seq (.ret (.call 22 (cC aq))) .pass) .pass) (.seq (.set 3 (bp aP (.call 4 (cS aq (cj .len aP))))) (.seq (.set 4 (bp aP (.call 4 (cS aq (cj .len aP))))) (.seq (.set 5 (.comp [0] 3 (.one 2) (.eR (bJ .tup (bp bh (aQ 1)) (bp cB (aQ 3)))) .no (cj .tuple (.comp [0,2] 4 (.one 3) (.fF (aQ 8)) (.gC (cw .In bh aE) (cw .Eq (.call 4 (cS aq (aQ 9))) (aQ 0))) bh)))) (.seq (.ret (.prim .tup (ox (bp bh (aQ 0)) (bp dR (aQ 0)) (bp cB (aQ 2)) (bp dR (aQ 1)) (bp (.prim .lst (dN (aQ 0) (bp bh (aQ 4)) (aQ 1410))) (.call 4 (cS aq (aQ 3))))))) .pass))))))⟩
def Bx:aM:=⟨2,3,(.seq (.set 2 (cj .eK (cj .list (bp aE (bR "coins"))))) (.seq (.ifs (.gC (.cV (.dU (.call 7 (cS (.bx "numbers" [("Cabinet",221)] aq .nil) aP)))) (.cV (.dU (.call 7 (cS (.bx "coins" [("Cabinet",223)] aq .nil) (.call 196 (cC aE))))))) (.seq (.ret (.lit (.bl false))) .pass) .pass) (.seq (.ifs (.cV (.dU (cj .all (.comp [1,0] 4 (.one 3) (.eR aP) .no (.call 7 (cS (.bx "coin" [("Cabinet",222)] aE (cC bh)) (bp (bp aq (bR "coins")) bh))))))) (.seq (.ret (.lit (.bl false))) .pass) .pass) (.seq (.ret (.call 7 (cS (.bx "facts" [("Cabinet",224)] aq .nil) (.comp [1] 3 (.one 2) (.eR (cj .eK (cj .list (bp aE (bR "facts"))))) .no (bJ (.bin .Add) (cj .tup aP) (bp (bp aq (bR "facts")) aP)))))) .pass))))⟩
def Z4:aM:=⟨2,2,(.seq (.expr (.bx "check_number" [("Cabinet",209)] aq (cC aE))) (.seq (.fT "claims" ["Cabinet"] aq (bJ .mI (cj (.fld "claims") aq) aE)) (.seq (.ret (.eL .iM (cj (.fld "held") aq) (cC aE))) .pass)))⟩
def P6:aM:=⟨2,2,(.seq (.ifs (.gC (.cV (.dU (.call 38 (cC aE)))) (cw .NotIn aE (cj (.fld "claims") aq))) (.seq (.raise "NoFact" (cC (bR "no fact has that number"))) .pass) .pass) (.seq (.ret (.eL .iM (cj (.fld "claims") aq) (cC aE))) .pass))⟩
structure Fl(a b c:Nat)(g g':G):Prop where
 len:g.length<=g'.length
 old:∀i,(i≠a/\i≠b/\i≠c)->i<g.length->g'[i]?=g[i]?
section
variable{c d:Nat}{g2:G}
theorem Fl.at(F:Fl a b c g g')(h:i≠a/\i≠b/\i≠c)(e:g[i]?=some o):g'[i]?=some o:=(F.old i h (m8 e)).trans e
theorem Ex.fl(e:Ex g g'):Fl a b c g g':=⟨e.len,λi _ h=>e.old i h⟩
theorem Fl.trans(F:Fl a b c g g')(F2:Fl a b c g' g2):Fl a b c g g2:=⟨aJ F.len F2.len,λi h l=>(F2.old i h (ak l F.len)).trans (F.old i h l)⟩
theorem Fl.set(F:Fl a b c g g'){i:Nat}(h:i=a\/i=b\/i=c)(o:O):Fl a b c g (g'.set i o):=⟨by rw[List.length_set];exact F.len,λj hj l=>by rw[aR (by omega)];exact F.old j hj l⟩
theorem Gr.fl{x:Nat}(G1:Gr x g g')(h:x=a\/x=b\/x=c):Fl a b c g g':=⟨G1.len,λi hi l=>G1.old i (by omega) l⟩
theorem Fl.draw(F:Fl a b c g g')(D0:k9 g d)(h:d<a/\d<b/\d<c):k9 g' d:=by
 obtain⟨s,p,x,r,xs,e1,e2,hs,q⟩:=D0.ex;exact⟨s,p,x,r,xs,F.at (by omega) e1,F.at (by omega) e2,hs,q⟩
end
def fY(l:List Nat)(v:Int):Bool:=l.any λn=>decide ((n:Int)=v)
theorem vh:fY l v=true↔∃n∈l,v=(n:Nat):=by
 unfold fY;rw[du];exact⟨λ⟨n,h,e⟩=>⟨n,h,(aN e).symm⟩,λ⟨n,h,e⟩=>⟨n,h,aL e.symm⟩⟩
theorem L0{hs:List (Nat×α)}(h:fY (nums hs) v=true):∃n x,v=(n:Nat)/\(n,x)∈hs:=by
 obtain⟨n,hn,e⟩:=vh.mp h;obtain⟨⟨n',x⟩,hp,rfl⟩:=au.mp hn;exact⟨n',x,e,hp⟩
def L7{α:Type}(hs:List (Nat×α))(n:Nat):List (Nat×α):=hs.filter λp=>decide (p.1≠n)
theorem Ti{a:Nat}:decide (kN a≠kN b)=decide (a≠b):=decide_eq_decide.mpr (not_congr ⟨λz=>by have:(a:Int)=b:=eP z;omega,λz=>by rw[z]⟩)
theorem vg{f:α->D}(hs:List (Nat×α))(n:Nat):delD (hs.map λp=>(kN p.1,f p.2)) (kN n)=(L7 hs n).map λp=>(kN p.1,f p.2):=by
 unfold delD L7;rw[List.filter_map];exact dE _ (List.filter_congr λp _=>Ti)
def J6(v:Int)(p:Nat×Int×Int):Bool:=!(decide (p.2.1=v)||decide (p.2.2=v))
def kP(p:Nat×Int×Int):Key×Int×Int:=(kN p.1,p.2)
theorem ES(fs:Fs):(fs.map kP).map iX=gK fs:=by
 unfold gK;rw[bj]
 rfl
theorem NB(fs:Fs)(v:Int):((fs.map kP).filter (Y5 v)).map iX=gK (fs.filter (J6 v)):=by
 rw[List.filter_map,<- ES]
 rfl
theorem Tj(h:fZ (nums fs)):((fs.map kP).map (·.1)).Nodup:=by
 rw[bj];exact cH.mpr ((cH.mp h).imp λz e=>by have:((_:Nat):Int)=(_:Nat):=eP e;omega)
theorem fZ.sub{l m:List (Nat×α)}(h:fZ (nums l))(s:m.Sublist l):fZ (nums m):=vP (s.map _) h
theorem Iv{x y:Int}(h:n∉nums fs):putD (gK fs) (kN n) (.tup [.int x,.int y])=gK (fs++[(n,x,y)]):=by
 unfold putD;rw[az]
 ·simp[gK]
 ·intro z;obtain⟨p,hx,e⟩:=du.mp z;obtain⟨p,hp,rfl⟩:=au.mp hx;have:(p.1:Int)=n:=eP (aN e);exact h (au.mpr ⟨p,hp,by omega⟩)
theorem Ro{x:Nat}:putD (E0 qc qf gv lr) (.inr "learnt") (.int (x:Nat))=E0 qc qf gv x:=rfl
theorem CC:I9 (E0 qc qf gv lr) (.inr "learnt")=some (.int (lr:Nat)):=rfl
noncomputable abbrev pD(p:Int×Int):D:=.tup [.int p.1,.int p.2]
structure TE(T:Nat->Option aM):Prop where
 tc:TC T
 td:TD T
 h6:T 6=some vq
 h7:T 7=some E9
 zW:T 14=some Y0
 zA:T 22=some xj
 zH:T 210=some L6
 zE:T 215=some S7
 zD:T 216=some Z4
 zC:T 217=some V6
 zB:T 218=some P6
 zO:T 198=some BP
 zN:T 199=some Cj
 kz:T 204=some oh
 ku:T 205=some z6
 zK:T 206=some Ba
 zJ:T 207=some Bx
section
variable{T:Nat->Option aM}{d:Nat}
theorem X0{f:α->D}{hs:List (Nat×α)}(h:g[a]?=some (.bO (hs.map λp=>(kN p.1,f p.2))))(hk:kb (fY (nums hs) v)):pR g (.int v) (.ref a) kb:=⟨_,.inl ⟨a,_,.inl v,rfl,h,rfl,rfl⟩,by rw[MU];exact hk⟩
theorem T9(hT:TC T)(C:gb g m hd cl lc lf hs fs)(hn:fY (nums hs) v=false->E ⟨"NoCoin"⟩ g)(h:fY (nums hs) v=true->Q .bf g):a8 T (k+2) 209 [.ref m,.int v] g Q E:=by
 refine call_of hT.ui rfl ?_;dsimp[A9,a9,List.replicate];walk_at"";refine E6 (k:=k) hT.nf ?_;walk_at"";refine v8 C.o rfl ?_;walk_at"";refine J8 (X0 (f:=c8.d) C.h ?_);walk_at"";by_cases hv:fY (nums hs) v=true
 ·refine fj (by rw[hv];rfl) ?_;walk_at"";exact h hv
 ·have hv:=bo.mpr hv;refine fm (by rw[hv];rfl) ?_;walk_at"";exact hn hv
theorem SG(hT:TC T)(C:gb g m hd cl lc lf hs fs)(inc:fZ (nums hs))(hn:fY (nums hs) v=false->E ⟨"NoCoin"⟩ g)(h:∀n x,v=(n:Nat)->(n,x)∈hs->Q x.d g):a8 T (k+3) 222 [.ref m,.int v] g Q E:=by
 refine call_of hT.uf rfl ?_;dsimp[O4,a9,List.replicate];walk_at"";refine j9 C.o rfl rfl ?_;walk_at"";refine T9 (k:=k) hT C hn λhv=>?_;obtain⟨n,x,rfl,hp⟩:=L0 hv;walk_at"";refine v8 C.o rfl ?_;walk_at"";refine k7 C.h rfl (m6 (f:=c8.d) inc hp) ?_;exact h n x rfl hp
theorem Z5(hT:TC T)(hn:k8 c=false->E ⟨"BadCoin"⟩ g)(h:k8 c=true->Q .bf g):a8 T (k+5) 39 [c.d] g Q E:=by
 refine call_of hT.rF.2 rfl ?_;dsimp[N9,a9,List.replicate];walk_at"";refine X2 hT.nf hT.h2 hT.qe ?_;walk_at"";by_cases hc:k8 c=true
 ·refine fj (by rw[hc];rfl) ?_;walk_at"";exact h hc
 ·have hc:=bo.mpr hc;refine fm (by rw[hc];rfl) ?_;walk_at"";exact hn hc
def B0(hs:Hs)(c:c8):Str:=if k8 c=false then "BadCoin" else if hs.length=9 then "Full" else ""
theorem Rq(hT:TC T)(C:gb g m hd cl lc lf hs fs)(O1:iB hs)(dC:∀n∈nums hs,n<=lc)(n2:m≠hd)(n3:cl≠hd)(n4:cl≠m)(hn:B0 hs c≠""->E ⟨B0 hs c⟩ g)(h:B0 hs c=""->k8 c=true->hs.length<9->∀g',Fl m hd cl g g'->gb g' m hd cl (lc+1:Nat) lf (hs++[(lc+1,c)]) fs->Q (.int (lc+1:Nat)) g'):a8 T (k+6) 214 [.ref m,c.d] g Q E:=by
 by_cases hc:k8 c=true
 ·have hz:=O1.len;by_cases h9:hs.length=9
  ·have e:B0 hs c="Full":=by unfold B0;rw[az (by rw[hc];decide),aG h9]
   rw[e] at hn;refine call_of hT.qd rfl ?_;dsimp[M3,a9,List.replicate];walk_at"";refine Z5 (k:=k) hT (λz=>by rw[hc] at z;cases z) λ_=>?_;walk_at"";refine v8 C.o rfl ?_;walk_at"";refine BN C.h ?_;walk_at"";refine fm (aL (by simp[fP,h9])) ?_;walk_at"";exact hn (by decide +kernel)
  ·have e:B0 hs c="":=by unfold B0;rw[az (by rw[hc];decide),az h9]
   exact WC (k:=k) hT C hc (by omega) dC n2 n3 n4 λg' l o C'=>h e hc (by omega) g' ⟨by omega,λi hi _=>o i hi.2.1 hi.1⟩ C'
 ·have hc:=bo.mpr hc;have e:B0 hs c="BadCoin":=by unfold B0;rw[aG hc]
  rw[e] at hn;refine call_of hT.qd rfl ?_;dsimp[M3,a9,List.replicate];walk_at"";exact Z5 (k:=k) hT (λ_=>hn (by decide +kernel)) λz=>by rw[hc] at z;cases z
def t6(hs:Hs)(v:Int)(c:c8):Str:=if fY (nums hs) v=false then "NoCoin" else if k8 c=false then "BadCoin" else ""
theorem We(hT:TE T)(C:gb g m hd cl lc lf hs fs)(O1:iB hs)(n2:m≠hd)(n3:cl≠hd)(hn:t6 hs v c≠""->E ⟨t6 hs v c⟩ g)(h:t6 hs v c=""->k8 c=true->∀n x g',v=(n:Nat)->(n,x)∈hs->Fl m hd cl g g'->gb g' m hd cl lc lf (U8 hs n c) fs->Q x.d g'):a8 T (k+6) 215 [.ref m,.int v,c.d] g Q E:=by
 have hz:=O1.len;refine call_of hT.zE rfl ?_;dsimp[S7,a9,List.replicate];walk_at"";refine j9 C.o rfl rfl ?_;walk_at"";refine SG (k:=k+2) hT.tc C O1.inc (λhv=>?_) λn x e hp=>?_
 ·have e:t6 hs v c="NoCoin":=by unfold t6;rw[aG hv]
  rw[e] at hn;exact hn (by decide +kernel)
 have hv:fY (nums hs) v=true:=vh.mpr ⟨n,au.mpr ⟨_,hp,rfl⟩,e⟩;subst e;walk_at"";refine Z5 (k:=k) hT.tc (λhc=>?_) λhc=>?_
 ·have e:t6 hs n c="BadCoin":=by unfold t6;rw[az (by rw[hv];decide),aG hc]
  rw[e] at hn;exact hn (by decide +kernel)
 have e:t6 hs n c="":=by unfold t6;rw[az (by rw[hv];decide),az (by rw[hc];decide)]
 walk_at"";refine v8 C.o rfl ?_;walk_at"";refine Q8 C.h rfl (by simp[fP];omega) ?_;rw[xc (au.mpr ⟨_,hp,rfl⟩)];walk_at"";exact h e hc n x _ rfl hp ((Ex.fl (Ex.refl g)).set (.inr (.inl rfl)) _) ⟨d8 C.o (aZ n2),get_set C.h,d8 C.c (aZ n3)⟩
theorem Rm(hT:TE T)(C:gb g m hd cl lc lf hs fs)(O1:iB hs)(inc:fZ (nums fs))(hf:fs.length<1000)(n2:m≠hd)(n3:cl≠hd)(hn:fY (nums hs) v=false->E ⟨"NoCoin"⟩ g)(h:∀n x g',v=(n:Nat)->(n,x)∈hs->Fl m hd cl g g'->gb g' m hd g.length lc lf (L7 hs n) (fs.filter (J6 v))->Q x.d g'):a8 T (k+3) 216 [.ref m,.int v] g Q E:=by
 have lm:=m8 C.o;have lh:=m8 C.h;refine call_of hT.zD rfl ?_;dsimp[Z4,a9,List.replicate];walk_at"";refine j9 C.o rfl rfl ?_;walk_at"";refine T9 (k:=k) hT.tc C hn λhv=>?_;obtain⟨n,x,rfl,hp⟩:=L0 hv;walk_at"";refine v8 C.o rfl ?_;walk_at"";refine VC (fs:=fs.map kP) (by rw[ES];exact C.c) (by simpa using hf) (Tj inc) ?_;rw[NB];have e1:=Ex.snoc g (O.bO (gK (fs.filter (J6 (n:Nat)))));have s1:=c7 (g:=g) (o:=O.bO (gK (fs.filter (J6 (n:Nat)))));have C1:=C.at e1;generalize g++[_]=g1 at *;walk_at"";refine uS C1.o (by simp) (by simp) ?_;have e3:(O.ins "Cabinet" (x8 "claims" (.ref g.length) [("held",.ref hd),("claims",.ref cl),("last_coin",.int (lc:Nat)),("last_fact",.int (lf:Nat))]))=fQ hd g.length (lc:Nat) (lf:Nat):=rfl;rw[e3];have o2:=get_set C1.o (o':=fQ hd g.length (lc:Nat) (lf:Nat));have h2:=d8 C1.h n2 (o':=fQ hd g.length (lc:Nat) (lf:Nat));walk_at"";refine v8 o2 rfl ?_;walk_at"";refine⟨uQ h2,?_⟩;walk_at"";refine vc h2 rfl (m6 (f:=c8.d) O1.inc hp) ?_;rw[show delD (fP hs) (kN n)=fP (L7 hs n) from vg (f:=c8.d) hs n];exact h n x _ rfl hp (((Ex.fl e1).set (.inl rfl) _).set (.inr (.inl rfl)) _) ⟨d8 o2 (aZ n2),get_set h2,d8 (d8 s1 (by omega)) (by omega)⟩
def x6(hs:Hs)(v u:Int):Str:=if fY (nums hs) v=false\/fY (nums hs) u=false then "NoCoin" else if v=u then "SameOne" else ""
theorem Uw(hT:TE T)(C:gb g m hd cl lc lf hs fs)(dC:∀n∈nums fs,n<=lf)(hf:fs.length<1000)(n2:m≠hd)(n3:cl≠hd)(n4:cl≠m)(hn:x6 hs v u≠""->E ⟨x6 hs v u⟩ g)(h:x6 hs v u=""->∀g',Fl m hd cl g g'->gb g' m hd cl lc (lf+1:Nat) hs (fs++[(lf+1,v,u)])->Q (.int (lf+1:Nat)) g'):a8 T (k+4) 217 [.ref m,.int v,.int u] g Q E:=by
 refine call_of hT.zC rfl ?_;dsimp[V6,a9,List.replicate];walk_at"";refine j9 C.o rfl rfl ?_;walk_at"";refine call_of hT.zH rfl ?_;dsimp[L6,a9,List.replicate];have no:(fY (nums hs) v=false\/fY (nums hs) u=false)->E ⟨"NoCoin"⟩ g:=λz=>by
  have e:x6 hs v u="NoCoin":=by unfold x6;rw[aG z]
  rw[e] at hn;exact hn (by decide +kernel)
 walk_at"";refine j9 C.o rfl rfl ?_;walk_at"";refine T9 (k:=k) hT.tc C (λz=>no (.inl z)) λh1=>?_;walk_at"";refine j9 C.o rfl rfl ?_;walk_at"";refine T9 (k:=k) hT.tc C (λz=>no (.inr z)) λh2=>?_;have nn:¬(fY (nums hs) v=false\/fY (nums hs) u=false):=by rw[h1,h2];decide
 walk_at"";refine if2 (λz=>?_) (λz=>?_)
 ·have e:x6 hs v u="SameOne":=by unfold x6;rw[az nn,aG z]
  rw[e] at hn;walk_at"";exact hn (by decide +kernel)
 have e:x6 hs v u="":=by unfold x6;rw[az nn,az z]
 walk_at"";refine Ho ?_;walk_at"";refine⟨m,_,_,_,rfl,C.o,by simp,rfl,?_⟩;walk_at"";refine Cg ?_;refine⟨_,C.o,by simp,?_⟩;have e3:(O.ins "Cabinet" (x8 "last_fact" (.int ((lf:Nat)+1)) [("held",.ref hd),("claims",.ref cl),("last_coin",.int (lc:Nat)),("last_fact",.int (lf:Nat))]))=fQ hd cl (lc:Nat) (lf+1:Nat):=rfl;rw[e3];have o2:=get_set C.o (o':=fQ hd cl (lc:Nat) (lf+1:Nat));have c2:=d8 C.c (aZ n4) (o':=fQ hd cl (lc:Nat) (lf+1:Nat));walk_at"";refine v8 o2 rfl ?_;walk_at"";refine v8 o2 rfl ?_;walk_at"";refine Q8 c2 rfl (by simp[gK];omega) ?_;rw[Iv (n:=lf+1) (λz=>by have:=dC _ z;omega)];walk_at"";have o3:=d8 o2 n4 (o':=O.bO (gK (fs++[(lf+1,v,u)])));refine v8 o3 rfl ?_;exact h e _ (((Ex.fl (Ex.refl g)).set (.inl rfl) _).set (.inr (.inr rfl)) _) ⟨o3,d8 (d8 C.h n2) n3,get_set c2⟩
theorem Pd(hT:TE T)(C:gb g m hd cl lc lf hs fs)(inc:fZ (nums fs))(n3:cl≠hd)(n4:cl≠m)(hn:fY (nums fs) v=false->E ⟨"NoFact"⟩ g)(h:∀n x g',v=(n:Nat)->(n,x)∈fs->Fl m hd cl g g'->gb g' m hd cl lc lf hs (L7 fs n)->Q (pD x) g'):a8 T (k+2) 218 [.ref m,.int v] g Q E:=by
 refine call_of hT.zB rfl ?_;dsimp[P6,a9,List.replicate];walk_at"";refine E6 (k:=k) hT.tc.nf ?_;walk_at"";refine v8 C.o rfl ?_;walk_at"";refine J8 (X0 (f:=pD) C.c ?_);walk_at"";by_cases hv:fY (nums fs) v=true
 ·refine fj (by rw[hv];rfl) ?_;obtain⟨n,x,rfl,hp⟩:=L0 hv;walk_at"";refine v8 C.o rfl ?_;walk_at"";refine⟨uQ C.c,?_⟩;walk_at"";refine vc C.c rfl (m6 (f:=pD) inc hp) ?_;rw[show delD (gK fs) (kN n)=gK (L7 fs n) from vg (f:=pD) fs n];exact h n x _ rfl hp ((Ex.fl (Ex.refl g)).set (.inr (.inr rfl)) _) ⟨d8 C.o n4,d8 C.h n3,get_set C.c⟩
 ·have hv:=bo.mpr hv;refine fm (by rw[hv];rfl) ?_;walk_at"";exact hn hv
end
structure Sd where
 lc:Nat
 lf:Nat
 hs:Hs
 fs:Fs
structure jW(s:Sd):Prop where
 K:iB s.hs
 lt:∀j∈nums s.hs,j<=s.lc
 inc:fZ (nums s.fs)
 pP:∀j∈nums s.fs,j<=s.lf
 fl:s.fs.length<=s.lf
inductive jE where
 |val (d:D)|lst (l:List Nat)
def jE.at(lo:Nat)(g:G)(y:D):jE->Prop
 |.val d=>y=d
 |.lst l=>∃r,y=.ref r/\lo<=r/\g[r]?=some (.lst (b7 l))
def jE.ok:jE->Prop
 |.val d=>∀g,o8 g 2 d d
 |.lst l=>l.length<=1000
theorem o8.up{x:D}(h:o8 g n x y):o8 g (n+1) x y:=by
 induction h with
 |bf=>exact .bf
 |bl b=>exact .bl b
 |int i=>exact .int i
 |str x=>exact .str x
 |tup hl h hz ih=>exact .tup hl ih hz
 |lst ha hb hl h hz ih=>exact .lst ha hb hl ih hz
theorem Y1(ms:List Int)(hz:ms.length<=1000):o8 g (n+1) (.tup (ms.map .int)) (.tup (ms.map .int)):=by
 refine .tup rfl (λi x y hx hy=>?_) (by simpa using hz);rw[hx] at hy;cases hy;rw[aB,ae] at hx;obtain⟨j,_,rfl⟩:=hx;exact .int _
theorem Y2(h:kR c):o8 g 2 c.d c.d:=by
 have h1:=h.l8;have h2:=h.u8;refine .tup rfl (λi x y hx hy=>?_) (by simp);rw[hx] at hy;cases hy
 match i,hx with
 |0,hx=>cases hx;exact .int _
 |1,hx=>cases hx;exact Y1 _ (by omega)
 |2,hx=>cases hx;exact .int _
 |3,hx=>cases hx;exact Y1 _ (by omega)
 |4,hx=>cases hx;exact .int _
 |i+5,hx=>simp at hx
section
variable{T:Nat->Option aM}{d:Nat}
theorem XA(O1:iB hs)(ha:g[a]?=some (.lst ((i9 hs).map c8.d)))(hb:g[b]?=some (.lst ((i9 hs).map c8.d))):o8 g 3 (.ref a) (.ref b):=by
 refine .lst ha hb rfl (λi x y hx hy=>?_) (by have:=O1.len;simp[i9];omega);rw[hx] at hy;cases hy;rw[aB,ae] at hx;obtain⟨c,hc,rfl⟩:=hx;obtain⟨p,hp,rfl⟩:=au.mp (bg hc);exact Y2 (O1.good p hp)
theorem Gd(ha:g[a]?=some (.lst (b7 l)))(hb:g[b]?=some (.lst (b7 l)))(hz:l.length<=1000):o8 g 1 (.ref a) (.ref b) :=
 a25 ha hb (λx hx=>by obtain⟨i,_,rfl⟩:=au.mp hx;exact .inl ⟨_,rfl⟩) (by simpa[b7] using hz)
theorem jE.QX{an:jE}(ok:an.ok){lo l2:Nat}{y2:D}(h:an.at lo g y)(h2:an.at l2 g y2):o8 g 2 y y2:=by
 cases an with
 |val d=>rw[show y=d from h,show y2=d from h2];exact ok g
 |lst l =>
  obtain⟨r,rfl,_,e⟩:=h;obtain⟨r2,rfl,_,e2⟩:=h2;exact(Gd e e2 ok).up
theorem UN(hT:TE T)(B:hV g q qc qf gv lr hs fs)(O1:iB hs)(dC:∀n∈nums hs,n<=gv)(n2:q≠qc)(n3:qf≠qc)(n4:qf≠q)(hn:B0 hs c≠""->∀g',Ex g g'->Q (.tup [.str (B0 hs c),.bf]) g')(h:B0 hs c=""->∀g',Fl q qc qf g g'->hV g' q qc qf (gv+1) lr (hs++[(gv+1,c)]) fs->Q (.tup [.str "",.int (gv+1:Nat)]) g'):a8 T (k+3) 197 [.ref q,c.d] g Q E:=by
 have hz:=O1.len;refine call_of hT.td.zP rfl ?_;dsimp[BQ,a9,List.replicate];walk_at"";refine Gu (k:=k) (d:=g.length) hT.td.h8 hT.td.wk λg1 G1 _=>?_;have e1:=Ex.FI G1;have B1:=B.at e1;walk_at"";by_cases hc:k8 c=true
 ·refine fj (by rw[hc];rfl) ?_;walk_at"";refine k7 B1.b rfl H9 ?_;walk_at"";refine BN B1.c ?_;walk_at"";rw[fP,ao];refine if2 (λz=>?_) (λz=>?_)
  ·have e:B0 hs c="Full":=by unfold B0;rw[az (by rw[hc];decide),aG (by omega)]
   rw[e] at hn;walk_at"";exact hn (by decide +kernel) _ e1
  have e:B0 hs c="":=by unfold B0;rw[az (by rw[hc];decide),az (by omega)]
  walk_at"";refine k7 B1.b rfl CA ?_;walk_at"";refine Q8 B1.b rfl (by simp[E0]) ?_;rw[show((gv:Nat):Int)+1=((gv+1:Nat):Int) by omega,Rn];have b2:=get_set B1.b (o':=O.bO (E0 qc qf (gv+1) lr));have c2:=d8 B1.c n2 (o':=O.bO (E0 qc qf (gv+1) lr));walk_at"";refine k7 b2 rfl H9 ?_;walk_at"";refine k7 b2 rfl CA ?_;walk_at"";refine Q8 c2 rfl (by simp[fP];omega) ?_;rw[Iw (n:=gv+1) (λz=>by have:=dC _ z;omega)];have b3:=d8 b2 (aZ n2) (o':=O.bO (fP (hs++[(gv+1,c)])));walk_at"";refine k7 b3 rfl CA ?_;walk_at"";exact h e _ (((Ex.fl e1).set (.inl rfl) _).set (.inr (.inl rfl)) _) ⟨b3,get_set c2,d8 (d8 B1.f (aZ n4)) (aZ n3)⟩
 ·have hc:=bo.mpr hc;have e:B0 hs c="BadCoin":=by unfold B0;rw[aG hc]
  rw[e] at hn;refine fm (by rw[hc];rfl) ?_;walk_at"";exact hn (by decide +kernel) _ e1
theorem drop_eq{f:Nat×Int×Int}(h:fs[i]?=some f):fs.drop i=f::fs.drop (i+1):=by
 obtain⟨hi,e⟩:=aD.mp h;rw[dZ hi,e]
def M9(fs:Fs)(v:Int)(i:Nat):Fs:=(fs.take i).filter (J6 v)++fs.drop i
theorem PQ(fs:Fs)(v:Int)(i:Nat):(M9 fs v i).Sublist fs:=by
 conv=>rhs;rw[<- iF i fs]
 exact List.Sublist.append fN (List.Sublist.refl _)
theorem PN{f:Nat×Int×Int}(h:fs[i]?=some f):f∈M9 fs v i:=aU _ (by rw[drop_eq h];simp)
theorem a36{f:Nat×Int×Int}(h:fs[i]?=some f)(hk:J6 v f=true):M9 fs v (i+1)=M9 fs v i:=by
 unfold M9;rw[drop_eq h,cE,h];simp[hk]
theorem a37{f:Nat×Int×Int}(inc:fZ (nums fs))(h:fs[i]?=some f)(hk:J6 v f=false):L7 (M9 fs v i) f.1=M9 fs v (i+1):=by
 obtain⟨hi,e⟩:=aD.mp h;have pw:=gn.mp (cH.mp inc);unfold M9 L7;rw[drop_eq h,cE,h,cQ,dt];simp only[ne_eq,not_true,decide_false,Bool.false_eq_true,if_false,Option.toList_some,List.filter_append,List.filter_cons,hk,List.filter_nil,List.append_nil]
 congr 1
 ·refine jj.mpr λp hp=>aL λz=>?_;obtain⟨j,hj,e2⟩:=fM (bE.mp hp).1;rw[cA] at hj;have:=pw j i (by omega) hi (by omega);rw[kh] at e2;rw[e,e2] at this;omega
 ·refine jj.mpr λp hp=>aL λz=>?_;obtain⟨j,hj,e2⟩:=fM hp;rw[gW] at hj;have:=pw i (i+1+j) hi (by omega) (by omega);rw[List.getElem_drop] at e2;rw[e,e2] at this;omega
theorem UM(hT:TE T)(B:hV g q qc qf gv lr hs fs)(O1:iB hs)(inc:fZ (nums fs))(hf:fs.length<=50)(n2:q≠qc)(n3:qf≠qc)(n4:qf≠q)(hn:fY (nums hs) v=false->Q (.tup [.str "NoCoin",.bf]) g)(h:∀n x g',v=(n:Nat)->(n,x)∈hs->Fl q qc qf g g'->hV g' q qc qf gv lr (L7 hs n) (fs.filter (J6 v))->Q (.tup [.str "",x.d]) g'):a8 T (k+1) 198 [.ref q,.int v] g Q E:=by
 refine call_of hT.zO rfl ?_;dsimp[BP,a9,List.replicate];walk_at"";refine k7 B.b rfl H9 ?_;walk_at"";refine J8 (X0 (f:=c8.d) B.c ?_);walk_at"";by_cases hv:fY (nums hs) v=true
 case neg =>
  have hv:=bo.mpr hv;refine fm (by rw[hv];rfl) ?_;walk_at"";exact hn hv
 refine fj (by rw[hv];rfl) ?_;obtain⟨n,x,rfl,hp⟩:=L0 hv;walk_at"";refine qQ (b0 T _) (km (b0 T _) ?_);walk_at"";refine k7 B.b rfl om ?_;walk_at"";refine qN B.f (by simp[gK];omega) ?_;rw[Bw];walk_at"";refine D9 c7 inc (by rw[M7];exact hf) ?_;have e1:=(Ex.snoc g (O.lst (b7 (nums fs)))).trans (Ex.snoc _ (O.lst (b7 (nums fs))));have s1:=c7 (g:=g++[O.lst (b7 (nums fs))]) (o:=O.lst (b7 (nums fs)));have l1:g.length<(g++[O.lst (b7 (nums fs))]).length:=by simp
 generalize (g++[O.lst (b7 (nums fs))]).length=sr at *;generalize (g++[O.lst (b7 (nums fs))])++[O.lst (b7 (nums fs))]=g1 at *;have lq:=m8 B.f;refine⟨sr,_,rfl,a7 s1,b7 (nums fs),λi Z g'=>(∃z,Z=[some (.ref q),some (.int (n:Nat)),z])/\Fl q qc qf g g'/\g'[sr]?=some (.lst (b7 (nums fs)))/\hV g' q qc qf gv lr hs (M9 fs (n:Nat) i),λi Z g' p=>w6 (a7 p.2.2.1),⟨⟨none,rfl⟩,Ex.fl e1,s1,?_⟩,λi y Z g' hy p=>?_,λZ g' p=>?_⟩
 ·rw[show M9 fs (n:Nat) 0=fs by simp[M9]];exact B.at e1
 ·obtain⟨⟨z,rfl⟩,F2,s2,B2⟩:=p;rw[b7,aB,ae] at hy;obtain⟨j,hj,rfl⟩:=hy;rw[nums,aB,ae] at hj;obtain⟨⟨j',x1,x2⟩,tW,rfl⟩:=hj;have yB:=inc.sub (PQ fs (n:Nat) i);have vm:=m6 (f:=pD) yB (PN (v:=(n:Nat)) tW);refine p6 ?_
  try show wpS _ _ _ _ _ _
  walk_at"";refine k7 B2.b rfl om ?_;walk_at"";refine k7 B2.f rfl vm ?_;walk_at"";refine rL (Q2 (ms:=[x1,x2]) rfl ?_);walk_at"";by_cases hk:J6 (n:Nat) (j',x1,x2)=true
  ·refine fj (ax λz=>?_) ?_
   ·unfold J6 at hk;simp at hk z;omega
   walk_at"";refine⟨⟨_,rfl⟩,F2,s2,?_⟩;rw[a36 tW hk];exact B2
  ·have hk:=bo.mpr hk;refine fm (aL ?_) ?_
   ·unfold J6 at hk;simp at hk ⊢;omega
   walk_at"";refine k7 B2.b rfl om ?_;walk_at"";refine⟨uQ B2.f,?_⟩;walk_at"";refine vc B2.f rfl vm ?_;rw[show delD (gK (M9 fs (n:Nat) i)) (kN j')=gK (L7 (M9 fs (n:Nat) i) j') from vg (f:=pD) _ _,a37 inc tW hk];exact⟨⟨_,rfl⟩,F2.set (.inr (.inr rfl)) _,d8 s2 (by omega),d8 B2.b n4,d8 B2.c n3,get_set B2.f⟩
 ·obtain⟨⟨z,rfl⟩,F2,s2,B2⟩:=p;rw[show M9 fs (n:Nat) (b7 (nums fs)).length=fs.filter (J6 (n:Nat)) by simp[M9,b7,nums]] at B2
  try show wpS _ _ _ _ _ _
  walk_at"";refine k7 B2.b rfl H9 ?_;walk_at"";refine⟨uQ B2.c,?_⟩;walk_at"";refine vc B2.c rfl (m6 (f:=c8.d) O1.inc hp) ?_;rw[show delD (fP hs) (kN n)=fP (L7 hs n) from vg (f:=c8.d) hs n];walk_at"";exact h n x _ rfl hp (F2.set (.inr (.inl rfl)) _) ⟨d8 B2.b (aZ n2),get_set B2.c,d8 B2.f (aZ n3)⟩
theorem Nf(hT:TE T)(B:hV g q qc qf gv lr hs fs)(dC:∀n∈nums fs,n<=lr)(hf:fs.length<1000)(n2:q≠qc)(n3:qf≠qc)(n4:qf≠q)(hn:x6 hs v u≠""->Q (.tup [.str (x6 hs v u),.bf]) g)(h:x6 hs v u=""->∀g',Fl q qc qf g g'->hV g' q qc qf gv (lr+1) hs (fs++[(lr+1,v,u)])->Q (.tup [.str "",.int (lr+1:Nat)]) g'):a8 T (k+1) 199 [.ref q,.int v,.int u] g Q E:=by
 refine call_of hT.zN rfl ?_;dsimp[Cj,a9,List.replicate];have no:(fY (nums hs) v=false\/fY (nums hs) u=false)->Q (.tup [.str "NoCoin",.bf]) g:=λz=>by
  have e:x6 hs v u="NoCoin":=by unfold x6;rw[aG z]
  rw[e] at hn;exact hn (by decide +kernel)
 walk_at"";refine k7 B.b rfl H9 ?_;walk_at"";refine J8 (X0 (f:=c8.d) B.c ?_);walk_at"";by_cases h1:fY (nums hs) v=true
 case neg =>
  have h1:=bo.mpr h1;refine fm (by rw[h1];rfl) ?_;walk_at"";exact no (.inl h1)
 refine fj (by rw[h1];rfl) ?_;walk_at"";refine k7 B.b rfl H9 ?_;walk_at"";refine J8 (X0 (f:=c8.d) B.c ?_);walk_at"";by_cases h2:fY (nums hs) u=true
 case neg =>
  have h2:=bo.mpr h2;refine fm (by rw[h2];rfl) ?_;walk_at"";exact no (.inr h2)
 refine fj (by rw[h2];rfl) ?_;have nn:¬(fY (nums hs) v=false\/fY (nums hs) u=false):=by rw[h1,h2];decide
 walk_at"";refine if2 (λz=>?_) (λz=>?_)
 ·have e:x6 hs v u="SameOne":=by unfold x6;rw[az nn,aG z]
  rw[e] at hn;walk_at"";exact hn (by decide +kernel)
 have e:x6 hs v u="":=by unfold x6;rw[az nn,az z]
 walk_at"";refine k7 B.b rfl CC ?_;walk_at"";refine Q8 B.b rfl (by simp[E0]) ?_;rw[show((lr:Nat):Int)+1=((lr+1:Nat):Int) by omega,Ro];have b2:=get_set B.b (o':=O.bO (E0 qc qf gv (lr+1)));have f2:=d8 B.f (aZ n4) (o':=O.bO (E0 qc qf gv (lr+1)));walk_at"";refine k7 b2 rfl om ?_;walk_at"";refine k7 b2 rfl CC ?_;walk_at"";refine Q8 f2 rfl (by simp[gK];omega) ?_;rw[Iv (n:=lr+1) (λz=>by have:=dC _ z;omega)];have b3:=d8 b2 n4 (o':=O.bO (gK (fs++[(lr+1,v,u)])));walk_at"";refine k7 b3 rfl CC ?_;walk_at"";exact h e _ (((Ex.fl (Ex.refl g)).set (.inl rfl) _).set (.inr (.inr rfl)) _) ⟨b3,d8 (d8 B.c n2) n3,get_set f2⟩
end
structure Ad(d m hd cl q qc qf:Nat):Prop where
 h:d<m/\m<hd/\hd<q/\q<qc/\qc<qf/\d<cl/\cl≠m/\cl≠hd/\cl≠q/\cl≠qc/\cl≠qf
structure Wd(g:G)(d m hd cl q qc qf:Nat)(s:Sd):Prop where
 dr:k9 g d
 C:gb g m hd cl s.lc s.lf s.hs s.fs
 B:hV g q qc qf s.lc s.lf s.hs s.fs
 K:jW s
 A:Ad d m hd cl q qc qf
def Fu(T:Nat->Option aM)(k:Nat)(g:G)(m hd cl:Nat)(dd:D)(e:Str)(an:jE)(s':Sd):Prop:=∀(Q:KD) (E:KX),(e≠""->∀g',Ex g g'->E ⟨e⟩ g') ->
 (e=""->∀g' y hU,Fl m hd cl g g'->(hU=cl\/g.length<=hU)->gb g' m hd hU s'.lc s'.lf s'.hs s'.fs->jE.at g.length g' y an->Q y g')->a8 T (k+10) 205 [.ref m,dd] g Q E
def Wf(T:Nat->Option aM)(k:Nat)(g:G)(q qc qf:Nat)(dd:D)(e:Str)(an:jE)(s':Sd):Prop:=∀(Q:KD) (E:KX),(e≠""->∀g',Ex g g'->Q (.tup [.str e,.bf]) g') ->
 (e=""->∀g' y,Fl q qc qf g g'->hV g' q qc qf s'.lc s'.lf s'.hs s'.fs->jE.at g.length g' y an->Q (.tup [.str "",y]) g')->a8 T (k+11) 204 [.ref q,dd] g Q E
inductive Step(T:Nat->Option aM)(k:Nat)(g:G)(m hd cl q qc qf:Nat)(s:Sd)(dd:D):Prop
 |mk (e:Str) (an:jE) (s':Sd) (ok:an.ok) (K:e=""->jW s') (l:s'.lf<=s.lf+1) (hc:Fu T k g m hd cl dd e an s') (hb:∀g1,Fl m hd cl g g1->hV g1 q qc qf s.lc s.lf s.hs s.fs->Wf T k g1 q qc qf dd e an s'):Step T k g m hd cl q qc qf s dd
theorem Ou(h:B0 hs c=""):k8 c=true/\hs.length≠9:=by
 unfold B0 at h;split at h
 ·exact absurd h (by decide +kernel)
 ·rename_i c1;split at h
  ·exact absurd h (by decide +kernel)
  ·rename_i c2;exact⟨by simpa using c1,c2⟩
theorem jW.put{s:Sd}(K:jW s)(hB:CB c)(h:B0 s.hs c=""):jW ⟨s.lc+1,s.lf,s.hs++[(s.lc+1,c)],s.fs⟩:=by
 obtain⟨hg,h9⟩:=Ou h;have hz:=K.K.len;refine⟨⟨?_,by simp;omega,λp hp=>?_⟩,λj hj=>?_,K.inc,K.pP,K.fl⟩
 ·unfold nums fZ;rw[cv,iS];refine⟨K.K.inc,by simp,λx hx y hy=>?_⟩;have:=K.lt x hx;simp at hy;omega
 ·rcases dF.mp hp with z|z
  ·exact K.K.good p z
  ·rw[dA.mp z];exact⟨hg,hB.1,hB.2⟩
 ·unfold nums at hj;rw[cv] at hj;rcases dF.mp hj with z|z
  ·exact ke (K.lt j z)
  ·simp at z;show j<=s.lc+1;omega
theorem jW.sub{s:Sd}(K:jW s){h2:Hs}{f2:Fs}(a:h2.Sublist s.hs)(b:f2.Sublist s.fs):jW ⟨s.lc,s.lf,h2,f2⟩ :=
 ⟨⟨K.K.inc.sub a,aJ a.length_le K.K.len,λp hp=>K.K.good p (a.subset hp)⟩,λj hj=>K.lt j ((a.map _).subset hj),K.inc.sub b,λj hj=>K.pP j ((b.map _).subset hj),aJ b.length_le K.fl⟩
theorem jW.same{s:Sd}(K:jW s){h2:Hs}(O2:iB h2)(e:nums h2=nums s.hs):jW ⟨s.lc,s.lf,h2,s.fs⟩:=⟨O2,λj hj=>K.lt j (e▸hj),K.inc,K.pP,K.fl⟩
theorem jW.tell{s:Sd}(K:jW s):jW ⟨s.lc,s.lf+1,s.hs,s.fs++[(s.lf+1,v,u)]⟩:=by
 refine⟨K.K,K.lt,?_,λj hj=>?_,by have:=K.fl;simp;omega⟩
 ·unfold nums fZ;rw[cv,iS];refine⟨K.inc,by simp,λx hx y hy=>?_⟩;have:=K.pP x hx;simp at hy;omega
 ·unfold nums at hj;rw[cv] at hj;rcases dF.mp hj with z|z
  ·exact ke (K.pP j z)
  ·simp at z;show j<=s.lf+1;omega
theorem uniq{f:α->D}{hs:List (Nat×α)}(inc:fZ (nums hs)){n':Nat}{x x':α}(h:(n,x)∈hs)(h':(n',x')∈hs)(e:((n:Nat):Int)=(n':Nat)):n=n'/\f x=f x':=by
 have:n=n':=by omega
 subst this;exact⟨rfl,aF ((m6 (f:=f) inc h).symm.trans (m6 (f:=f) inc h'))⟩
theorem a24(x:Int×Int):o8 g 2 (pD x) (pD x):=Y1 (n:=1) [x.1,x.2] (by simp)
theorem OJ(O1:iB hs)(hg:kR c):iB (U8 hs n c)/\nums (U8 hs n c)=nums hs:=by
 have e:nums (U8 hs n c)=nums hs:=Ir λp=>by split<;>rfl
 refine⟨⟨by rw[e];exact O1.inc,by simpa[U8] using O1.len,λp hp=>?_⟩,e⟩;obtain⟨p,h1,rfl⟩:=au.mp hp;split
 ·exact hg
 ·exact O1.good p h1
theorem GF(x:Str):(x≠"lower"/\x≠"upper")\/∃w:RW,w≠.eN/\x=w.s:=by
 by_cases h1:x="lower"
 ·exact .inr ⟨.lower,(λz=>by cases z),h1⟩
 ·by_cases h2:x="upper"
  ·exact .inr ⟨.upper,(λz=>by cases z),h2⟩
  ·exact .inl ⟨h1,h2⟩
theorem PH(O1:iB hs)(h:numsOf hs f v≠[]):1<=v/\v<=99:=by
 have:=Bj.mpr h;unfold L1 i9 at this;rw[bj] at this;obtain⟨p,hp,rfl⟩:=au.mp this;obtain⟨a1,_,a3,_⟩:=(O1.good p hp).inv;show 1<=K5 f p.2/\K5 f p.2<=99;unfold K5;split
 ·exact a1
 ·exact a3
section
variable{T:Nat->Option aM}{d:Nat}{s:Sd}
theorem Wd.box(W:Wd g d m hd cl q qc qf s){g1:G}(F:Fl m hd cl g g1):hV g1 q qc qf s.lc s.lf s.hs s.fs:=by
 have:=W.A.h;exact⟨F.at (by omega) W.B.b,F.at (by omega) W.B.c,F.at (by omega) W.B.f⟩
theorem ID(hT:TE T)(W:Wd g d m hd cl q qc qf s)(hB:CB c):Step T k g m hd cl q qc qf s (.tup [.str "put",c.d]):=by
 have ad:=W.A.h;refine⟨B0 s.hs c,.val (.int (s.lc+1:Nat)),⟨s.lc+1,s.lf,s.hs++[(s.lc+1,c)],s.fs⟩,λ_=>.int _,W.K.put hB,by simp,λQ E hn h=>?_,λg1 F B Q E hn h=>?_⟩
 ·refine call_of hT.ku rfl ?_;dsimp[z6,a9,List.replicate];walk_at"";refine fm (by decide +kernel) ?_;walk_at"";refine j9 W.C.o rfl rfl ?_;walk_at"";exact Rq (k:=k+3) hT.tc W.C W.K.K W.K.lt (by omega) (by omega) (by omega) (λz=>hn z _ (Ex.refl g)) λe _ _ g' F' C'=>h e g' _ cl F' (.inl rfl) C' rfl
 ·refine call_of hT.kz rfl ?_;dsimp[oh,a9,List.replicate];walk_at"";refine fm (by decide +kernel) ?_;walk_at"";exact UN (k:=k+7) hT B W.K.K W.K.lt (by omega) (by omega) (by omega) hn λe g' F' B'=>h e g' _ F' B' rfl
theorem Ya(hT:TE T)(W:Wd g d m hd cl q qc qf s)(hB:CB c):Step T k g m hd cl q qc qf s (.tup [.str "right",.int v,c.d]):=by
 have ad:=W.A.h;have O1:=W.K.K;have hz:=O1.len;obtain⟨an,s',ok,K',l',key⟩:∃(an:jE) (s':Sd),an.ok/\(t6 s.hs v c=""->jW s')/\s'.lf<=s.lf+1/\∀n x,v=(n:Nat)->(n,x)∈s.hs->an=.val x.d/\s'=⟨s.lc,s.lf,U8 s.hs n c,s.fs⟩:=by
  by_cases hv:fY (nums s.hs) v=true
  ·obtain⟨n,x,rfl,hp⟩:=L0 hv;refine⟨.val x.d,⟨s.lc,s.lf,U8 s.hs n c,s.fs⟩,λ_=>Y2 (O1.good _ hp),λz=>?_,by simp,λn' x' e fI=>?_⟩
   ·have hg:k8 c=true:=by
     unfold t6 at z;rw[az (by rw[hv];decide)] at z;split at z
     ·exact absurd z (by decide +kernel)
     ·rename_i hc;simpa using hc
    have:=OJ (n:=n) O1 (c:=c) ⟨hg,hB.1,hB.2⟩;exact W.K.same this.1 this.2
   ·obtain⟨rfl,e2⟩:=uniq (f:=c8.d) O1.inc hp fI e;exact⟨by rw[e2],rfl⟩
  ·refine⟨.val .bf,s,λ_=>.bf,λz=>?_,by omega,λn x e hp=>absurd (vh.mpr ⟨n,au.mpr ⟨_,hp,rfl⟩,e⟩) hv⟩;unfold t6 at z;rw[aG (bo.mpr hv)] at z;exact absurd z (by decide +kernel)
 refine⟨t6 s.hs v c,an,s',ok,K',l',λQ E hn h=>?_,λg1 F B Q E hn h=>?_⟩
 ·refine call_of hT.ku rfl ?_;dsimp[z6,a9,List.replicate];walk_at"";refine fj (by decide +kernel) ?_;walk_at"";refine fm (by decide +kernel) ?_;walk_at"";refine j9 W.C.o rfl rfl ?_;walk_at"";refine We (k:=k+3) hT W.C O1 (by omega) (by omega) (λz=>hn z _ (Ex.refl g)) λe _ n x g' ev hp F' C'=>?_;obtain⟨rfl,rfl⟩:=key n x ev hp;exact h e g' _ cl F' (.inl rfl) C' rfl
 ·refine call_of hT.kz rfl ?_;dsimp[oh,a9,List.replicate];walk_at"";refine fj (by decide +kernel) ?_;walk_at"";refine fm (by decide +kernel) ?_;walk_at"";refine k7 B.b rfl H9 ?_;walk_at"";refine J8 (X0 (f:=c8.d) B.c ?_);walk_at"";by_cases hv:fY (nums s.hs) v=true
  case neg =>
   have hv:=bo.mpr hv;have e:t6 s.hs v c="NoCoin":=by unfold t6;rw[aG hv]
   rw[e] at hn;refine fm (by rw[hv];rfl) ?_;walk_at"";exact hn (by decide +kernel) _ (Ex.refl _)
  refine fj (by rw[hv];rfl) ?_;obtain⟨n,x,rfl,hp⟩:=L0 hv;walk_at"";refine Gu (k:=k+8) (d:=g1.length) hT.td.h8 hT.td.wk λg2 G2 _=>?_;have e2:=Ex.FI G2;have B2:=B.at e2;walk_at"";by_cases hc:k8 c=true
  case neg =>
   have hc:=bo.mpr hc;have e:t6 s.hs n c="BadCoin":=by unfold t6;rw[az (by rw[hv];decide),aG hc]
   rw[e] at hn;refine fm (by rw[hc];rfl) ?_;walk_at"";exact hn (by decide +kernel) _ e2
  refine fj (by rw[hc];rfl) ?_;have e:t6 s.hs n c="":=by unfold t6;rw[az (by rw[hv];decide),az (by rw[hc];decide)]
  obtain⟨rfl,rfl⟩:=key n x rfl hp;walk_at"";refine k7 B2.b rfl H9 ?_;walk_at"";refine k7 B2.c rfl (m6 (f:=c8.d) O1.inc hp) ?_;walk_at"";refine k7 B2.b rfl H9 ?_;walk_at"";refine Q8 B2.c rfl (by simp[fP];omega) ?_;rw[xc (au.mpr ⟨_,hp,rfl⟩)];walk_at"";exact h e _ _ ((Ex.fl e2).set (.inr (.inl rfl)) _) ⟨d8 B2.b (by omega),get_set B2.c,d8 B2.f (by omega)⟩ rfl
theorem ZP(hT:TE T)(W:Wd g d m hd cl q qc qf s)(hf:s.fs.length<=50):Step T k g m hd cl q qc qf s (.tup [.str "out",.int v]):=by
 have ad:=W.A.h;have O1:=W.K.K;obtain⟨e,an,s',ok,K',l',no,key⟩:∃(e:Str) (an:jE) (s':Sd),an.ok/\(e=""->jW s')/\s'.lf<=s.lf+1/\(fY (nums s.hs) v=false->e="NoCoin")/\∀n x,v=(n:Nat)->(n,x)∈s.hs->e=""/\an=.val x.d/\s'=⟨s.lc,s.lf,L7 s.hs n,s.fs.filter (J6 v)⟩:=by
  by_cases hv:fY (nums s.hs) v=true
  ·obtain⟨n,x,rfl,hp⟩:=L0 hv;refine⟨"",.val x.d,⟨s.lc,s.lf,L7 s.hs n,s.fs.filter (J6 (n:Nat))⟩,λ_=>Y2 (O1.good _ hp),λ_=>W.K.sub fN fN,by simp,λz=>(by rw[hv] at z;cases z),λn' x' e fI=>?_⟩;obtain⟨rfl,e2⟩:=uniq (f:=c8.d) O1.inc hp fI e;exact⟨rfl,by rw[e2],rfl⟩
  ·exact⟨"NoCoin",.val .bf,s,λ_=>.bf,λz=>absurd z (by decide +kernel),by omega,λ_=>rfl,λn x e hp=>absurd (vh.mpr ⟨n,au.mpr ⟨_,hp,rfl⟩,e⟩) hv⟩
 refine⟨e,an,s',ok,K',l',λQ E hn h=>?_,λg1 F B Q E hn h=>?_⟩
 ·refine call_of hT.ku rfl ?_;dsimp[z6,a9,List.replicate];walk_at""
  iterate 2 (refine fj (by decide +kernel) ?_;walk_at"")
  refine fm (by decide +kernel) ?_;walk_at"";refine j9 W.C.o rfl rfl ?_;walk_at"";refine Rm (k:=k+6) hT W.C O1 W.K.inc (by omega) (by omega) (by omega) (λz=>?_) λn x g' ev hp F' C'=>?_
  ·obtain rfl:=no z;exact hn (by decide +kernel) _ (Ex.refl g)
  ·obtain⟨rfl,rfl,rfl⟩:=key n x ev hp;exact h rfl g' _ g.length F' (.inr (aj _)) C' rfl
 ·refine call_of hT.kz rfl ?_;dsimp[oh,a9,List.replicate];walk_at""
  iterate 2 (refine fj (by decide +kernel) ?_;walk_at"")
  refine fm (by decide +kernel) ?_;walk_at"";refine UM (k:=k+9) hT B O1 W.K.inc hf (by omega) (by omega) (by omega) (λz=>?_) λn x g' ev hp F' B'=>?_
  ·obtain rfl:=no z;exact hn (by decide +kernel) _ (Ex.refl g1)
  ·obtain⟨rfl,rfl,rfl⟩:=key n x ev hp;exact h rfl g' _ F' B' rfl
theorem Xf(hT:TE T)(W:Wd g d m hd cl q qc qf s)(hf:s.fs.length<=50):Step T k g m hd cl q qc qf s (.tup [.str "tell",.int v,.int u]):=by
 have ad:=W.A.h;refine⟨x6 s.hs v u,.val (.int (s.lf+1:Nat)),⟨s.lc,s.lf+1,s.hs,s.fs++[(s.lf+1,v,u)]⟩,λ_=>.int _,λ_=>W.K.tell,by simp,λQ E hn h=>?_,λg1 F B Q E hn h=>?_⟩
 ·refine call_of hT.ku rfl ?_;dsimp[z6,a9,List.replicate];walk_at""
  iterate 3 (refine fj (by decide +kernel) ?_;walk_at"")
  refine fm (by decide +kernel) ?_;walk_at"";refine j9 W.C.o rfl rfl ?_;walk_at"";exact Uw (k:=k+5) hT W.C W.K.pP (by omega) (by omega) (by omega) (by omega) (λz=>hn z _ (Ex.refl g)) λe g' F' C'=>h e g' _ cl F' (.inl rfl) C' rfl
 ·refine call_of hT.kz rfl ?_;dsimp[oh,a9,List.replicate];walk_at""
  iterate 3 (refine fj (by decide +kernel) ?_;walk_at"")
  refine fm (by decide +kernel) ?_;walk_at"";exact Nf (k:=k+9) hT B W.K.pP (by omega) (by omega) (by omega) (by omega) (λz=>hn z _ (Ex.refl g1)) λe g' F' B'=>h e g' _ F' B' rfl
theorem YL(hT:TE T)(W:Wd g d m hd cl q qc qf s):Step T k g m hd cl q qc qf s (.tup [.str "untell",.int v]):=by
 have ad:=W.A.h;obtain⟨e,an,s',ok,K',l',no,key⟩:∃(e:Str) (an:jE) (s':Sd),an.ok/\(e=""->jW s')/\s'.lf<=s.lf+1/\(fY (nums s.fs) v=false->e="NoFact")/\∀n x,v=(n:Nat)->(n,x)∈s.fs->e=""/\an=.val (pD x)/\s'=⟨s.lc,s.lf,s.hs,L7 s.fs n⟩:=by
  by_cases hv:fY (nums s.fs) v=true
  ·obtain⟨n,x,rfl,hp⟩:=L0 hv;refine⟨"",.val (pD x),⟨s.lc,s.lf,s.hs,L7 s.fs n⟩,λ_=>a24 x,λ_=>W.K.sub (List.Sublist.refl _) fN,by simp,λz=>(by rw[hv] at z;cases z),λn' x' e fI=>?_⟩;obtain⟨rfl,e2⟩:=uniq (f:=pD) W.K.inc hp fI e;exact⟨rfl,by rw[e2],rfl⟩
  ·exact⟨"NoFact",.val .bf,s,λ_=>.bf,λz=>absurd z (by decide +kernel),by omega,λ_=>rfl,λn x e hp=>absurd (vh.mpr ⟨n,au.mpr ⟨_,hp,rfl⟩,e⟩) hv⟩
 refine⟨e,an,s',ok,K',l',λQ E hn h=>?_,λg1 F B Q E hn h=>?_⟩
 ·refine call_of hT.ku rfl ?_;dsimp[z6,a9,List.replicate];walk_at""
  iterate 4 (refine fj (by decide +kernel) ?_;walk_at"")
  refine fm (by decide +kernel) ?_;walk_at"";refine j9 W.C.o rfl rfl ?_;walk_at"";refine Pd (k:=k+7) hT W.C W.K.inc (by omega) (by omega) (λz=>?_) λn x g' ev hp F' C'=>?_
  ·obtain rfl:=no z;exact hn (by decide +kernel) _ (Ex.refl g)
  ·obtain⟨rfl,rfl,rfl⟩:=key n x ev hp;exact h rfl g' _ cl F' (.inl rfl) C' rfl
 ·refine call_of hT.kz rfl ?_;dsimp[oh,a9,List.replicate];walk_at""
  iterate 4 (refine fj (by decide +kernel) ?_;walk_at"")
  refine fm (by decide +kernel) ?_;walk_at"";refine k7 B.b rfl om ?_;walk_at"";refine J8 (X0 (f:=pD) B.f ?_);walk_at"";by_cases hv:fY (nums s.fs) v=true
  case neg =>
   have hv:=bo.mpr hv;obtain rfl:=no hv;refine fm (by rw[hv];rfl) ?_;walk_at"";exact hn (by decide +kernel) _ (Ex.refl _)
  refine fj (by rw[hv];rfl) ?_;obtain⟨n,x,rfl,hp⟩:=L0 hv;obtain⟨rfl,rfl,rfl⟩:=key n x rfl hp;walk_at"";refine k7 B.b rfl om ?_;walk_at"";refine⟨uQ B.f,?_⟩;walk_at"";refine vc B.f rfl (m6 (f:=pD) W.K.inc hp) ?_;rw[show delD (gK s.fs) (kN n)=gK (L7 s.fs n) from vg (f:=pD) s.fs n];walk_at"";exact h rfl _ _ ((Ex.fl (Ex.refl g1)).set (.inr (.inr rfl)) _) ⟨d8 B.b (by omega),d8 B.c (by omega),get_set B.f⟩ rfl
theorem NR(hT:TC T)(ho:PyData.strOk x=true)(h1:x≠"lower")(h2:x≠"upper")(h:E ⟨"BadSide"⟩ g):a8 T (k+2) 219 [.ref m,.str x,.int v,.int u] g Q E:=by
 refine call_of hT.uh rfl ?_;dsimp[K8,a9,List.replicate];walk_at"";exact F8 hT.lz.2 ho (λz=>z.elim (λz=>absurd z h1) λz=>absurd z h2) λ_ _=>h
theorem Pc(hT:TC T)(ho:PyData.strOk x=true)(h1:x≠"lower")(h2:x≠"upper")(h:E ⟨"BadSide"⟩ g):a8 T (k+2) 220 [.ref m,.str x,.int v,.ref a] g Q E:=by
 refine call_of hT.ug rfl ?_;dsimp[J5,a9,List.replicate];walk_at"";exact F8 hT.lz.2 ho (λz=>z.elim (λz=>absurd z h1) λz=>absurd z h2) λ_ _=>h
theorem Hu(hT:TE T)(W:Wd g d m hd cl q qc qf s)(h:a8 T (k+9) 219 [.ref m,.str x,.int v,.int u] g Q E):a8 T (k+10) 205 [.ref m,.tup [.str "one",.str x,.int v,.int u]] g Q E:=by
 refine call_of hT.ku rfl ?_;dsimp[z6,a9,List.replicate];walk_at""
 iterate 5 (refine fj (by decide +kernel) ?_;walk_at"")
 refine fm (by decide +kernel) ?_;walk_at"";refine j9 W.C.o rfl rfl ?_;walk_at"";exact h
theorem Hv(hT:TE T)(W:Wd g d m hd cl q qc qf s)(ha:g[a]?=some (.lst (ns.map .int)))(h:a8 T (k+9) 220 [.ref m,.str x,.int v,.ref g.length] (g++[.lst (ns.map .int)]) Q E):a8 T (k+10) 205 [.ref m,.tup [.str "two",.str x,.int v,.ref a]] g Q E:=by
 refine call_of hT.ku rfl ?_;dsimp[z6,a9,List.replicate];walk_at""
 iterate 6 (refine fj (by decide +kernel) ?_;walk_at"")
 refine j9 W.C.o rfl rfl ?_;walk_at"";refine EX (a7 ha) ?_;walk_at"";exact h
theorem Hr(hT:TE T)(h:a8 T (k+9) 202 [.ref q,.str x,.int v,.int u] g Q E):a8 T (k+10) 204 [.ref q,.tup [.str "one",.str x,.int v,.int u]] g Q E:=by
 refine call_of hT.kz rfl ?_;dsimp[oh,a9,List.replicate];walk_at""
 iterate 5 (refine fj (by decide +kernel) ?_;walk_at"")
 refine fm (by decide +kernel) ?_;walk_at"";exact h
theorem Ht(hT:TE T)(h:a8 T (k+9) 203 [.ref q,.str x,.int v,.ref a] g Q E):a8 T (k+10) 204 [.ref q,.tup [.str "two",.str x,.int v,.ref a]] g Q E:=by
 refine call_of hT.kz rfl ?_;dsimp[oh,a9,List.replicate];walk_at""
 iterate 6 (refine fj (by decide +kernel) ?_;walk_at"")
 exact h
theorem ZO(hT:TE T)(W:Wd g d m hd cl q qc qf s)(ho:PyData.strOk x=true):Step T k g m hd cl q qc qf s (.tup [.str "one",.str x,.int v,.int u]):=by
 have ad:=W.A.h;have O1:=W.K.K;rcases GF x with⟨x1,x2⟩|⟨w,hw,rfl⟩
 ·refine⟨"BadSide",.val .bf,s,λ_=>.bf,λz=>absurd z (by decide +kernel),by omega,λQ E hn h=>?_,λg1 F B Q E hn h=>?_⟩
  ·exact Hu hT W (NR (k:=k+7) hT.tc ho x1 x2 (hn (by decide +kernel) _ (Ex.refl g)))
  ·exact Hr (k:=k+1) hT (UK (k:=k+8) hT.td ho x1 x2 (hn (by decide +kernel)))
 have K1:y9 s.hs (bW w) v u=""->iB (l0 s.hs (numsOf s.hs (bW w) u) (bW w) v):=λh0=>by
  have hv:=PH (v:=v) O1 (f:=bW w) λz=>by
   have:y9 s.hs (bW w) v u="NoDie":=by unfold y9;rw[aG (.inl z)]
   rw[this] at h0;exact absurd h0 (by decide +kernel)
  exact O1.give hv.1 hv.2
 have nl:(numsOf s.hs (bW w) u).length<=1000:=aJ (numsOf_len _ _ _) (by have:=O1.len;omega);refine⟨y9 s.hs (bW w) v u,.lst (numsOf s.hs (bW w) u),⟨s.lc,s.lf,l0 s.hs (numsOf s.hs (bW w) u) (bW w) v,s.fs⟩,nl,λh0=>W.K.same (K1 h0) (E8 _ _ _ _),by simp,λQ E hn h=>?_,λg1 F B Q E hn h=>?_⟩
 ·exact Hu hT W (Vq (k:=k+4) hT.tc hw W.C O1 (by omega) (by omega) hn λh0 g' r G1 l1 hr C1=>h h0 g' _ cl (G1.fl (.inr (.inl rfl))) (.inl rfl) C1 ⟨r,rfl,l1,hr⟩)
 ·exact Hr (k:=k+1) hT (Po (k:=k+8) hT.td hw B O1 (by omega) (by omega) hn λh0 g' r G1 l1 hr B1=>h h0 g' _ (G1.fl (.inr (.inl rfl))) B1 ⟨r,rfl,l1,hr⟩)
theorem ZQ(hT:TE T)(W:Wd g d m hd cl q qc qf s)(ho:PyData.strOk x=true)(ha:g[a]?=some (.lst (ns.map .int)))(hl:ns.length<=50)(na:a≠m/\a≠hd/\a≠cl/\a≠q/\a≠qc/\a≠qf):Step T k g m hd cl q qc qf s (.tup [.str "two",.str x,.int v,.ref a]):=by
 have ad:=W.A.h;have O1:=W.K.K;have e0:=Ex.snoc g (O.lst (ns.map D.int));have s0:=c7 (g:=g) (o:=O.lst (ns.map D.int));have lh:=m8 W.C.h;rcases GF x with⟨x1,x2⟩|⟨w,hw,rfl⟩
 ·refine⟨"BadSide",.val .bf,s,λ_=>.bf,λz=>absurd z (by decide +kernel),by omega,λQ E hn h=>?_,λg1 F B Q E hn h=>?_⟩
  ·exact Hv hT W ha (Pc (k:=k+7) hT.tc ho x1 x2 (hn (by decide +kernel) _ e0))
  ·exact Ht (k:=k+1) hT (UL (k:=k+8) hT.td ho x1 x2 (hn (by decide +kernel)))
 obtain⟨F,hF⟩:=Nr (L1 s.hs (bW w));have Lj:=hF.le;have dl:(L1 s.hs (bW w)).length<=9:=by have:=O1.len;simpa[L1,i9] using this
 refine⟨z9 s.hs (bW w) v ns,.val (.int F),⟨s.lc,s.lf,l0 s.hs (ns.map Int.toNat) (bW w) F,s.fs⟩,λ_=>.int _,λh0=>W.K.same (O1.give hF.pos (by omega)) (E8 _ _ _ _),by simp,λQ E hn h=>?_,λg1 F1 B Q E hn h=>?_⟩
 ·refine Hv hT W ha (MQ (k:=k+1) hT.tc hw (W.C.at e0) O1 (by omega) (by omega) s0 hl (by omega) hF (λz g' e'=>hn z g' (e0.trans e')) λh0 g' G1 C1=>?_);exact h h0 g' _ cl ((Ex.fl e0).trans (G1.fl (.inr (.inl rfl)))) (.inl rfl) C1 rfl
 ·exact Ht (k:=k+1) hT (Pp (k:=k+8) hT.td hw B O1 (by omega) (by omega) (F1.at (by omega) ha) hl (by omega) hF hn λh0 g' G1 B1=>h h0 g' _ (G1.fl (.inr (.inl rfl))) B1 rfl)
end
section
variable{T:Nat->Option aM}{d:Nat}{c:Nat}
theorem XB(ha:g[a]?=some (.lst (fs.map λf=>.tup [.int (f.1:Nat),.int f.2.1,.int f.2.2])))(hb:g[b]?=some (.lst (fs.map λf=>.tup [.int (f.1:Nat),.int f.2.1,.int f.2.2])))(hz:fs.length<=1000):o8 g 2 (.ref a) (.ref b):=by
 refine .lst ha hb rfl (λi x y hx hy=>?_) (by simpa using hz);rw[hx] at hy;cases hy;rw[aB,ae] at hx;obtain⟨f,_,rfl⟩:=hx;exact Y1 (n:=0) [(f.1:Int),f.2.1,f.2.2] (by simp)
theorem X'(hT:TE T)(C:gb g m hd cl lc lf hs fs)(B:hV g q qc qf gv lr hs fs)(O1:iB hs)(inc:fZ (nums fs))(hf:fs.length<=50)(h:∀g',Ex g g'->Q (.bl true) g'):a8 T (k+6) 207 [.ref m,.ref q] g Q E:=by
 have hz:=O1.len;have nl:=M7 hs;refine call_of hT.zJ rfl ?_;dsimp[Bx,a9,List.replicate];walk_at"";refine k7 B.b rfl H9 ?_;walk_at"";refine qN B.c (by simp[fP];omega) ?_;rw[Y3];walk_at"";refine D9 c7 O1.inc (by omega) ?_;have e1:=(Ex.snoc g (O.lst (b7 (nums hs)))).trans (Ex.snoc _ (O.lst (b7 (nums hs))));have s1:=c7 (g:=g++[O.lst (b7 (nums hs))]) (o:=O.lst (b7 (nums hs)));generalize (g++[O.lst (b7 (nums hs))]).length=sr at *;generalize (g++[O.lst (b7 (nums hs))])++[_]=g1 at *;have C1:=C.at e1;have B1:=B.at e1;walk_at"";refine j9 C1.o rfl rfl ?_;walk_at"";refine BA (k:=k+4) hT.tc C1 O1.inc (by omega) ?_;walk_at"";have e2:=Ex.snoc g1 (O.lst (b7 (nums hs)));refine S0 hT.h6 hT.h7 1 (k:=k+2) (Gd c7 (e2.at s1) (by omega)) λg3 e3=>?_;have jv:=e2.trans e3;have C3:=C1.at jv;have B3:=B1.at jv;walk_at"";refine j9 C3.o rfl rfl ?_;walk_at"";refine A7 (k:=k+3) hT.tc C3 O1.inc (by omega) λg4 r4 e4 _ tI=>?_;walk_at"";refine Z6 (k:=k+4) hT.td (B3.at e4) O1.inc (by omega) λg5 r5 e5 _ pV=>?_;walk_at"";refine S0 hT.h6 hT.h7 3 (k:=k) (XA O1 (e5.at tI) pV) λg6 e6=>?_;have mZ:=jv.trans (e4.trans (e5.trans e6));have C6:=C1.at mZ;have B6:=B1.at mZ;have s6:=mZ.at s1;walk_at"";refine M4 (α:=Nat×c8) (b0 T _) (FE (b0 T _) (a7 s6) (λQ q=>w_var rfl q) _ ?_);refine⟨hs,λp=>.int (p.1:Nat),λZ=>∃z1 z2,Z=[some (.ref q),some (.ref m),z1,z2],λ_=>true,λ_=>.bl true,λg' e=>w6 (a7 ?_),by omega,⟨none,none,rfl⟩,λp Z g' hp e sh=>?_,λg7 e7=>?_⟩
 ·rw[show hs.map (λp=>D.int (p.1:Nat))=b7 (nums hs) by simp[b7,nums]];exact e.at s6
 ·obtain⟨z1,z2,rfl⟩:=sh;refine p6 (Q7 ⟨rfl,e,js ?_⟩);have C7:=C6.at e;have B7:=B6.at e;walk_at"";refine j9 C7.o rfl rfl ?_;walk_at"";refine Py (k:=k+2) hT.tc C7 O1.inc hp ?_;walk_at"";refine k7 B7.b rfl H9 ?_;walk_at"";refine k7 B7.c rfl (m6 (f:=c8.d) O1.inc hp) ?_;walk_at"";refine S0 hT.h6 hT.h7 2 (k:=k+1) (Y2 (O1.good p hp)) λg8 e8=>?_;exact⟨rfl,e.trans e8,_,_,rfl⟩
 rw[K4];refine BJ (v:=true) (a7 c7) ?_ ?_
 ·rw[show hs.map (λ_=>D.bl true)=(hs.map λ_=>true).map D.bl by rw[bj];rfl,Bi];simp
 have e8:=mZ.trans (e7.trans (Ex.snoc g7 (O.lst (hs.map λ_=>D.bl true))));generalize g7++[_]=g8 at *;have C8:=C1.at e8;have B8:=B1.at e8;walk_at"";refine j9 C8.o rfl rfl ?_;walk_at"";refine PL (k:=k+3) hT.tc C8 inc hf λg9 r9 e9 _ Kq=>?_;have B9:=B8.at e9;walk_at"";refine M4 (α:=Nat×Int×Int) (b0 T _) (km (b0 T _) ?_);walk_at"";refine k7 B9.b rfl om ?_;walk_at"";refine qN B9.f (by simp[gK];omega) ?_;rw[Bw];walk_at"";refine D9 c7 inc (by rw[M7];exact hf) ?_;have Ej:=(Ex.snoc g9 (O.lst (b7 (nums fs)))).trans (Ex.snoc _ (O.lst (b7 (nums fs))));refine⟨_,_,rfl,a7 c7,fs,λp=>.int (p.1:Nat),λZ=>∃z1 z2,Z=[some (.ref q),z1,z2],λ_=>true,λf=>.tup [.int (f.1:Nat),.int f.2.1,.int f.2.2],λg' e=>w6 (a7 ?_),by omega,⟨none,none,rfl⟩,λp Z g' hp e sh=>?_,λwq wz=>?_⟩
 ·rw[show fs.map (λp=>D.int (p.1:Nat))=b7 (nums fs) by simp[b7,nums]];exact e.at c7
 ·obtain⟨z1,z2,rfl⟩:=sh;refine p6 (Q7 ⟨rfl,e,js ?_⟩);have Jg:=(B9.at Ej).at e;walk_at"";refine k7 Jg.b rfl om ?_;walk_at"";refine k7 Jg.f rfl (m6 (f:=pD) inc hp) ?_;walk_at"";refine uL (by simp) ?_;exact⟨rfl,e,_,_,rfl⟩
 rw[K4];have jw:=(Ej.trans wz).trans (Ex.snoc wq (O.lst (fs.map λf=>.tup [.int (f.1:Nat),.int f.2.1,.int f.2.2])));walk_at"";refine S0 hT.h6 hT.h7 2 (k:=k+1) (XB (jw.at Kq) c7 (by omega)) λg12 jv=>?_;exact h _ (((e1.trans e8).trans e9).trans (jw.trans jv))
theorem PY(h4:T 4=some M6){z:Option D}(D0:k9 g d)(h:∀(ns:List Int) g',ns.length<=8->k9 g' d->Gr d g g'->Q (.tup (ns.map .int)) g') :
  aS (a8 T (k+1)) (.prim .tuple (.cons (.comp [0,2] 4 (.one 3) (.fF (.lit (.int 8))) (.gC (.dU (.prim (.cmp .In) (.cons (.var 3) (.cons (.var 1) .nil)))) (.dU (.prim (.cmp .Eq) (.cons (.call 4 (.cons (.var 0) (.cons (.lit (.int 9)) .nil))) (.cons (.lit (.int 0)) .nil))))) (.var 3)) .nil)) [some (.ref d),z,some (.tup (ms.map .int))] g Q E:=by
 walk_at"";refine U4 (b0 T _) (xu (b0 T _) ?_);walk_at"";refine⟨by decide,by decide,A4 0 8,λi ys Z g'=>k9 g' d/\Gr d g g'/\(∃ns:List Int,ys=ns.map .int)/\ys.length<=i/\∃z2 z3,Z=[some (.ref d),some (.tup (ms.map .int)),z2,z3],by decide,λi ys Z g' p=>⟨S1,p.2.2.2.1⟩,⟨D0,Gr.refl _ _,⟨[],rfl⟩,by simp,none,none,rfl⟩,λi y ys Z g' hy p=>?_,λys Z g5 p=>?_⟩
 ·obtain⟨D5,G5,⟨ns,rfl⟩,hl,z2,z3,rfl⟩:=p;obtain⟨_,rfl⟩:=vj hy;have yes:∀g6,k9 g6 d->Gr d g g6->aS (a8 T (k+1)) (.var 3) [some (.ref d),some (.tup (ms.map .int)),z2,some (.int (0+(i:Int)))] g6 (λy g4=>k9 g4 d/\Gr d g g4/\(∃l:List Int,ns.map D.int++[y]=l.map .int)/\(ns.map D.int++[y]).length<=i+1/\∃Jo Jn,[some (D.ref d),some (.tup (ms.map .int)),z2,some (.int (0+(i:Int)))]=[some (.ref d),some (.tup (ms.map .int)),Jo,Jn]) je:=λg6 D6 G6=>by
   walk_at"";exact⟨D6,G6,⟨ns++[0+(i:Int)],by simp⟩,by simp at hl ⊢;omega,_,_,rfl⟩
  refine p6 ?_
  try show dw _ _ _ _ _ _
  walk_at"";refine rL (Q2 (ms:=ms) rfl ?_);walk_at"";refine if2 (λ_=>?_) (λ_=>?_)
  ·refine js ?_;exact yes g' D5 G5
  walk_at"";refine j8 (k:=k) h4 D5 (by decide) (by decide) λr g6 _ _ D6 G6=>?_;walk_at"";refine if2 (λ_=>?_) (λ_=>?_)
  ·exact yes g6 D6 (G5.trans G6)
  ·exact⟨D6,G5.trans G6,⟨ns,rfl⟩,by omega,_,_,rfl⟩
 obtain⟨D5,G5,⟨ns,rfl⟩,hl,z2,z3,rfl⟩:=p;refine Uz (a7 c7) ?_;exact h ns _ (by simpa[A4] using hl) ((Ex.snoc _ _).draw D5) (G5.trans ((Ex.snoc _ _).gr d))
theorem YG(hT:TE T)(B:hV g q qc qf gv lr hs fs)(O1:iB hs)(D0:k9 g d)(h:∀(c:c8) g',CB c->k9 g' d->Gr d g g'->Q c.d g'):a8 T (k+3) 206 [.ref d,.ref q] g Q E:=by
 have h4:=hT.td.h4;have hz:=O1.len;have dl:=D0.lt;refine call_of hT.zK rfl ?_;dsimp[Ba,a9,List.replicate];walk_at"";refine Z6 (k:=k+1) hT.td B O1.inc (by omega) λg1 r1 e1 l1 oJ=>?_;have D1:=e1.draw D0;have G1:=e1.gr d;have lc:(i9 hs).length<=9:=by simpa[i9] using hz
 have any:∀g2,k9 g2 d->Gr d g g2->a8 T (k+2) 22 [.ref d] g2 Q E:=λg2 D2 G2=>Yh (k:=k) h4 hT.zA D2 λc g3 hc D3 G3=>h c g3 ⟨hc.l8,hc.u8⟩ D3 (G2.trans G3);walk_at"";rw[ao];refine if2 (λ_=>?_) (λc0=>?_)
 ·refine fm rfl ?_;walk_at"";exact any g1 D1 G1
 walk_at"";refine j8 (k:=k+1) h4 D1 (by decide) (by decide) λr g2 _ _ D2 G2=>?_;have Jd:=G1.trans G2;walk_at"";refine if2 (λ_=>?_) (λ_=>?_)
 ·walk_at"";exact any g2 D2 Jd
 have la:=G2.at (by omega) oJ;walk_at"";rw[ao];refine j8 (k:=k+1) h4 D2 (by omega) (by omega) λj1 g3 j0 jl D3 G3=>?_;have mS:=G3.at (by omega) la;obtain⟨y,hy,hm⟩:=A8 (l:=(i9 hs).map c8.d) j0 (by simpa using jl);obtain⟨c1,DX,rfl⟩:=au.mp hm;refine K0 (a7 mS) hy ?_;walk_at"";rw[ao];refine j8 (k:=k+1) h4 D3 (by omega) (by omega) λj2 g4 Kj Ki D4 G4=>?_;have tI:=G4.at (by omega) mS;obtain⟨y,yG,oN⟩:=A8 (l:=(i9 hs).map c8.d) Kj (by simpa using Ki);obtain⟨c2,mB,rfl⟩:=au.mp oN;refine K0 (a7 tI) yG ?_;have G4':=Jd.trans (G3.trans G4);walk_at"";refine U4 (b0 T _) (DD (b0 T _) ?_);walk_at"";refine Q1 (d:=.tup (c1.lm.map .int)) rfl ?_;walk_at"";refine Q1 (d:=.tup (c2.um.map .int)) rfl ?_;walk_at"";refine⟨_,rfl,[.tup (c1.lm.map .int),.tup (c2.um.map .int)],λi ys Z g'=>k9 g' d/\Gr d g g'/\(∃L:List (List Int),ys=L.map (λl=>.tup (l.map .int))/\L.length=i/\∀l∈L,l.length<=8)/\∃z1 z2,Z=[some (.ref d),z1,z2],by simp,λi ys Z g' p=>⟨S1,?_⟩,⟨D4,G4',⟨[],rfl,rfl,λl hl=>by cases hl⟩,none,none,rfl⟩,λi y ys Z g' hy p=>?_,λys Z g5 p=>?_⟩
 ·obtain⟨_,_,⟨L,rfl,hl,_⟩,_⟩:=p;rw[ao];omega
 ·obtain⟨D5,G5,⟨L,rfl,hl,h8⟩,z1,z2,rfl⟩:=p;obtain⟨ms,rfl⟩:∃ms:List Int,y=.tup (ms.map .int):=by
   rcases ay.mp (bg hy) with z|z
   ·exact⟨_,z⟩
   ·exact⟨_,dA.mp z⟩
  refine p6 (Q7 (js ?_));refine PY (k:=k+1) h4 D5 λns g6 hn D6 G6=>?_;exact⟨D6,G5.trans G6,⟨L++[ns],by simp,by simp[hl],λl hl=>(dF.mp hl).elim (h8 l) λz=>by rw[dA.mp z];exact hn⟩,_,_,rfl⟩
 obtain⟨D5,G5,⟨L,rfl,hl,h8⟩,z1,z2,rfl⟩:=p;obtain⟨n1,n2,rfl⟩:∃n1 n2,L=[n1,n2]:=by
  match L,hl with
  |[a,b],_=>exact⟨a,b,rfl⟩
 have e6:=Ex.snoc g5 (O.lst ([n1,n2].map λl=>D.tup (l.map .int)));have s6:=c7 (g:=g5) (o:=O.lst ([n1,n2].map λl=>D.tup (l.map .int)));have D6:=e6.draw D5;have G6:=G5.trans (e6.gr d);have l6:g5.length≠d:=by have:=G5.len;omega
 generalize g5++[_]=g6 at *;generalize g5.length=u6 at *;walk_at"";refine Q1 (d:=.int c1.lo) rfl ?_;walk_at"";refine Q1 (d:=.int c2.up) rfl ?_;walk_at"";refine Q1 (d:=.int c1.yr) rfl ?_;walk_at"";have e7:=Ex.snoc g6 (O.lst [D.int 0,D.int c1.yr,D.int 1410]);have s7:=c7 (g:=g6) (o:=O.lst [D.int 0,D.int c1.yr,D.int 1410]);have l7:g6.length≠d:=by have:=G6.len;omega
 refine j8 (k:=k+1) h4 (e7.draw D6) (by decide) (by decide) λj3 g8 t0 t1 D8 G8=>?_;obtain⟨y,tD,rA⟩:=A8 (l:=[0,c1.yr,1410]) t0 (by simpa using t1);refine K0 (d:=.int y) (a7 (G8.at l7 s7)) ?_ ?_
 ·have:j3=0\/j3=1\/j3=2:=by omega
  rcases this with rfl|rfl|rfl<;>cases tD<;>rfl
 walk_at"";exact h ⟨c1.lo,n1,c2.up,n2,y⟩ g8 ⟨h8 n1 (by simp),h8 n2 (by simp)⟩ D8 (G6.trans ((e7.gr d).trans G8))
theorem Gq(hT:TE T)(nQ:T 232=some wZ)(B:hV g q qc qf gv lr hs fs)(O1:iB hs)(D0:k9 g d)(wg:d<q)(h:∀(v:Int) g',k9 g' d->Gr d g g'->Q (.int v) g'):a8 T (k+5) 232 [.ref d,.ref q,.str x] g Q E:=by
 have hz:=O1.len;refine call_of nQ rfl ?_;dsimp[wZ,a9,List.replicate];have rest:aS (a8 T (k+4)) (.call 37 (.cons (.var 0) (.cons (.prim .sset (.cons (.comp [3] 3 (.one 2) (.eR (.call 196 (.cons (.var 1) .nil))) .no (.prim .ix (.cons (.var 2) (.cons (.var 0) .nil)))) .nil)) .nil))) [some (.ref d),some (.ref q),some (.str x),some (.int (fX x))] g Q E:=by
  walk_at"";refine M4 (α:=c8) (b0 T _) (km (b0 T _) ?_);walk_at"";refine Z6 (k:=k+3) hT.td B O1.inc (by omega) λg1 r1 e1 l1 oJ=>?_;refine⟨r1,_,rfl,a7 oJ,i9 hs,c8.d,λZ=>∃z1 z2,Z=[some (.int (fX x)),z1,z2],λ_=>true,λc=>.int (K5 (fX x) c),λg' e=>w6 (a7 (e.at oJ)),by simp[i9];omega,⟨none,none,rfl⟩,λc Z g' hp e sh=>?_,λg2 e2=>?_⟩
  ·obtain⟨z1,z2,rfl⟩:=sh;refine p6 (Q7 ⟨rfl,e,js ?_⟩);walk_at"";exact Q1 (uX (ER x) c) ⟨rfl,e,_,_,rfl⟩
  rw[K4];have e3:=(e1.trans e2).trans (Ex.snoc g2 (O.lst ((i9 hs).map λc=>D.int (K5 (fX x) c))));refine VD (ns:=(i9 hs).map (K5 (fX x))) (a7 (by rw[bj];exact c7)) (by simp[i9];omega) ?_;walk_at"";have e4:=e3.trans (Ex.snoc _ (O.lst ((q9 ((i9 hs).map (K5 (fX x)))).map .int)));have dl:=D0.lt;refine AN (k:=k) hT.td c7 (by have:=e3.len;omega) (aJ (Bs _) (by simp[i9];omega)) (e4.draw D0) λv g5 D5 G5=>?_;exact h v g5 D5 ((e4.gr d).trans G5)
 walk_at"";refine if2 (λc1=>?_) (λc1=>?_)
 ·rw[show fX x=0 from aG c1] at rest;exact w_lit rest
 ·rw[show fX x=2 from az c1] at rest;exact w_lit rest
theorem Ng(hT:TD T)(h:Q (.ref g.length) (g++[.bO (E0 (g.length+1) (g.length+2) 0 0),.bO [],.bO []])):a8 T (k+1) 195 [] g Q E:=by
 refine call_of hT.zR rfl ?_;dsimp[Ax,a9,List.replicate];walk_at"";refine UC ?_;walk_at"";refine⟨_,rfl,by simp,by simp,?_⟩;have:((g++[O.bO []]++[O.bO []])++[O.bO []]).set g.length (.bO [(.inr "coins",.ref (g++[O.bO []]).length),(.inr "facts",.ref ((g++[O.bO []])++[O.bO []]).length),(.inr "given",.int 0),(.inr "learnt",.int 0)])=g++[.bO (E0 (g.length+1) (g.length+2) 0 0),.bO [],.bO []]:=by
  simp[E0,List.set_append]
 exact this▸h
theorem Nh(hT:TC T)(h:Q .bf (g++[fQ (g.length+1) (g.length+2) 0 0,.bO [],.bO []])):a8 T (k+1) 208 [.ref g.length] (g++[.ins "Cabinet" []]) Q E:=by
 refine call_of hT.zI rfl ?_;dsimp[V7,a9,List.replicate];have s0:=c7 (g:=g) (o:=O.ins "Cabinet" []);walk_at"";refine uS (wX s0) (by simp) (by simp) ?_;rw[show ∀x:D,x8 "held" x []=([("held",x)]:List (Str×D)) from λ_=>rfl];have s1:=get_set (wX (o':=O.bO []) s0) (o':=O.ins "Cabinet" [("held",.ref (g++[O.ins "Cabinet" []]).length)]);walk_at"";refine uS (wX s1) (by simp) (by simp) ?_;rw[show ∀x y:D,x8 "claims" x [("held",y)]=([("held",y),("claims",x)]:List (Str×D)) from λ_ _=>rfl];generalize hx:D.ref (((g++[O.ins "Cabinet" []]++[O.bO []]).set g.length (O.ins "Cabinet" [("held",.ref (g++[O.ins "Cabinet" []]).length)])).length)=x2 at *;have s2:=get_set (wX (o':=O.bO []) s1) (o':=O.ins "Cabinet" [("held",.ref (g++[O.ins "Cabinet" []]).length),("claims",x2)]);walk_at"";refine uS s2 (by simp) (by simp) ?_;rw[show ∀x y z:D,x8 "last_coin" x [("held",y),("claims",z)]=([("held",y),("claims",z),("last_coin",x)]:List (Str×D)) from λ_ _ _=>rfl];have s3:=get_set s2 (o':=O.ins "Cabinet" [("held",.ref (g++[O.ins "Cabinet" []]).length),("claims",x2),("last_coin",.int 0)]);walk_at"";refine uS s3 (by simp) (by simp) ?_;rw[show ∀x y z u:D,x8 "last_fact" x [("held",y),("claims",z),("last_coin",u)]=([("held",y),("claims",z),("last_coin",u),("last_fact",x)]:List (Str×D)) from λ_ _ _ _=>rfl];walk_at"";subst hx;refine cast (dE (Q .bf) ?_) h;simp[List.set_append,fQ]
end
def Tr:aM:=⟨1,1,(.seq (.iT (.dU (.lit (.bl true))) (.seq .pass .pass)) .pass)⟩
def Qg:aM:=⟨3,3,(.seq (.ret (.dH (bJ (.cmp .NotEq) (.call 91 (cS aE aP)) aE) (bJ (.cmp .Is) (.call 101 (dN aq aE aP)) (.lit .bf)))) .pass)⟩
def XF:aM:=⟨2,2,(.seq (.ret (.comp [0,1] 4 (.one 3) (.fF (cj (.fld "size") aq)) (.dU (.call 115 (dN aq aE bh))) bh)) .pass)⟩
def WK:aM:=⟨1,5,(.seq (.set 1 (.prim (.kG 0) .nil)) (.seq (.set 2 (.prim .lst .nil)) (.seq (.eM (.one 3) (.fF (bJ (.bin .Add) (cj (.fld "full") aq) (aQ 1))) (.seq (.ifs (cw .In bh aE) (.seq (.expr (.eL .append aP (cC bh))) (.seq (.eM (.one 4) (.eR (.call 116 (cS aq bh))) (.seq (.expr (.eL .kZ aE (cC (.call 91 (cS bh cB))))) .pass)) .pass)) .pass) .pass)) (.seq (.ret aP) .pass))))⟩
def NJ:aM:=⟨1,3,(.seq (.set 1 (.prim .T3 .nil)) (.seq (.eM (.one 2) (.nF (.call 117 (cC aq))) (.seq (.ifs (cw .Eq aP (cj (.fld "full") aq)) (.seq (.cN aE aP (aQ 1)) .pass) (.seq (.cN aE aP (cj .sum (.comp [2,1] 4 (.one 3) (.eR (.call 116 (cS aq aP))) .no (bp aE (.call 91 (cS aq bh)))))) .pass)) .pass)) (.seq (.ret aE) .pass)))⟩
def NH:aM:=⟨4,7,(.seq (.set 4 (.call 116 (cS aq aP))) (.seq (.set 5 bh) (.seq (.set 6 (aQ 0)) (.seq (.iT (cw .GtE dR (bp aE (.call 91 (cS aP (bp cB fE))))) (.seq (.jy 5 .nG (bp aE (.call 91 (cS aP (bp cB fE))))) (.seq (.jy 6 .iadd (aQ 1)) .pass))) (.seq (.ret (bJ .tup (bp cB fE) dR)) .pass)))))⟩
def WJ:aM:=⟨3,7,(.seq (.set 3 (.prim .lst .nil)) (.seq (.set 4 (aQ 0)) (.seq (.set 5 aP) (.seq (.iT (cw .NotEq cB (cj (.fld "full") aq)) (.seq (.lF (.many [6,5]) (.call 122 (lQ aq aE cB dR))) (.seq (.expr (.eL .append bh (cC fE))) (.seq (.set 4 (.call 91 (cS cB fE))) .pass)))) (.seq (.ret bh) .pass)))))⟩
def Yz:aM:=⟨1,2,(.seq (.set 1 (.call 121 (cC aq))) (.seq (.ifs (cw .Eq (bp aE (aQ 0)) (aQ 0)) (.seq (.ret (.lit .bf)) .pass) .pass) (.seq (.ret (.call 123 (dN aq aE (aQ 0)))) .pass)))⟩
def YA:aM:=⟨3,3,(.seq (.ret (.call 124 (cC (.call 99 (dN aq aE aP))))) .pass)⟩
def Qh:aM:=⟨3,3,(.seq (.ret (bp (.call 121 (cC (.call 99 (dN aq aE aP)))) (aQ 0))) .pass)⟩
def YB:aM:=⟨1,2,(.seq (.set 1 (.call 117 (cC aq))) (.seq (.ifs (cw .Eq (bp aE (cj (.un .USub) (aQ 1))) (cj (.fld "full") aq)) (.seq (.ret (.lit .bf)) .pass) .pass) (.seq (.ret aE) .pass)))⟩
def Qi:aM:=⟨3,3,(.seq (.ret (.call 129 (cC (.call 99 (dN aq aE aP))))) .pass)⟩
def Yy:aM:=⟨3,3,(.seq (.ifs (cw .Eq aE (bR "coin")) (.seq (.expr (.call 83 (cS aq aP))) .pass) (.seq (.expr (.call 75 (dN aq aE aP))) .pass)) .pass)⟩
def XC:aM:=⟨4,4,(.seq (.ifs (cw .NotIn aE (.lit (.tup [(.str "coin"),(.str "lower"),(.str "upper")]))) (.seq (.raise "BadSide" (cC (bR "asked about are coins, lower dies or upper dies"))) .pass) .pass) (.seq (.expr (.call 136 (dN aq aE aP))) (.seq (.expr (.call 136 (dN aq aE bh))) (.seq (.ifs (cw .Eq aP bh) (.seq (.raise "SameOne" (cC (bR "two unlike ones are asked about"))) .pass) .pass) .pass))))⟩
def Vn:aM:=⟨6,10,(.seq (.expr (.call 98 (dN aq aE aP))) (.seq (.expr (.call 137 (lQ aq bh cB dR))) (.seq (.set 6 (.make "Bounds" 113 (dN aq aE (bJ (.bin .Add) aP (cj .lst (.prim .tup (dN bh cB dR))))))) (.seq (.set 7 (.make "Bounds" 113 (dN aq aE (bJ (.bin .Add) aP (cj .lst (.prim .tup (dN bh dR cB))))))) (.seq (.set 8 (.call 124 (cC fE))) (.seq (.set 9 (.call 124 (cC jq))) (.seq (.ifs (.dH (cw .Is mf (.lit .bf)) (cw .Is lZ (.lit .bf))) (.seq (.raise "NoOrder" (cC (bR "there is no order"))) .pass) .pass) (.seq (.ifs (cw .Is lZ (.lit .bf)) (.seq (.ret (bJ .tup (bR "first") (.call 129 (cC jq)))) .pass) .pass) (.seq (.ifs (cw .Is mf (.lit .bf)) (.seq (.ret (bJ .tup (bR "later") (.call 129 (cC fE)))) .pass) .pass) (.seq (.ret (.prim .tup (dN (bR "either") mf lZ))) .pass))))))))))⟩
def NI:aM:=⟨6,6,(.seq (.ret (bp (.call 138 (wm aq aE aP bh cB dR)) (aQ 0))) .pass)⟩
def Bb:aM:=⟨2,2,(.seq (.ret (.dH (bJ (.cmp .Eq) (bJ (.cmp .Eq) (bp aq (aQ 0)) (bR "")) (bJ (.cmp .Eq) (bp aE (aQ 0)) (bR ""))) (.call 7 (cS (bp aq (aQ 1)) (bp aE (aQ 1)))))) .pass)⟩
def Z3:aM:=⟨2,2,(.seq (.oj (.seq (.ret (bJ .lst (bR "") (.call 205 (cS aq aE)))) .pass) [("MintError",(.prim .lst (.cons (.lit (.str "refused")) (.cons (.lit .bf) .nil))))]) .pass)⟩
def P7:aM:=⟨2,7,(.seq (.set 2 (cj .eK (cj .list (bp aE (bR "coins"))))) (.seq (.set 3 (.call 4 (cS aq (aQ 16)))) (.seq (.ifs (.gC (cw .Lt bh (aQ 6)) (.dH (cw .Lt (cj .len aP) (aQ 2)) (cw .Lt bh (aQ 12)))) (.seq (.ret (bJ .tup (bR "put") (.call 14 (cS aq (.call 206 (cS aq aE)))))) .pass) .pass) (.seq (.ifs (cw .Lt bh (aQ 8)) (.seq (.ret (.prim .tup (dN (bR "right") (.call 37 (cS aq aP)) (.call 14 (cS aq (.call 206 (cS aq aE))))))) .pass) .pass) (.seq (.ifs (cw .Lt bh (aQ 9)) (.seq (.ret (bJ .tup (bR "out") (.call 37 (cS aq aP)))) .pass) .pass) (.seq (.ifs (cw .Lt bh (aQ 12)) (.seq (.ret (.prim .tup (dN (bR "tell") (.call 37 (cS aq aP)) (.call 37 (cS aq aP))))) .pass) .pass) (.seq (.ifs (cw .Lt bh (aQ 13)) (.seq (.ret (bJ .tup (bR "untell") (.call 37 (cS aq (cj .eK (cj .list (bp aE (bR "facts")))))))) .pass) .pass) (.seq (.set 4 (.call 29 (cC aq))) (.seq (.set 5 (.call 232 (dN aq aE cB))) (.seq (.ifs (cw .Lt bh (aQ 14)) (.seq (.ret (.prim .tup (lQ (bR "one") cB dR (.call 232 (dN aq aE cB))))) .pass) .pass) (.seq (.set 6 (.comp [0] 3 (.one 2) (.eR (.call 201 (dN aE cB dR))) (cw .Eq (.call 4 (cS aq (aQ 2))) (aQ 0)) aP)) (.seq (.ret (.prim .tup (lQ (bR "two") cB dR (bJ (.bin .Add) fE (bJ (.bin .Mult) (cj .lst (.call 37 (cS aq aP))) (cj .int (bJ (.cmp .Eq) (.call 4 (cS aq (aQ 6))) (aQ 0)))))))) .pass))))))))))))⟩
def rQ:aM:=⟨1,6,(.seq (.set 1 (.call 3 (cC aq))) (.seq (.set 2 (.make "Cabinet" 208 .nil)) (.seq (.set 3 (.call 195 .nil)) (.seq (.eM (.one 4) (.fF (bJ (.bin .Add) (aQ 12) (.call 4 (cS aE (aQ 29))))) (.seq (.set 5 (.call 235 (cS aE bh))) (.seq (.ifs (.gC (.cV (.dU (.call 191 (cS (.call 234 (cS aP dR)) (.call 204 (cS bh dR)))))) (.cV (.dU (.call 207 (cS aP bh))))) (.seq (.ret (.lit (.bl false))) .pass) .pass) .pass))) (.seq (.ret (.lit (.bl true))) .pass)))))⟩
def WS:aM:=⟨1,2,(.seq (.expr .no) (.seq (.ret (.comp [1] 5 (.many [2,3,4]) (.eR (.bx "facts" [("Cabinet",224)] aq .nil)) .no (.prim .tup (dN (bR "coin") (bp aq bh) (bp aq cB))))) .pass))⟩
def Zp:aM:=⟨2,4,(.seq (.set 2 (.call 125 (dN (.bx "coins" [("Cabinet",223)] aq .nil) aE (.bx "fact_rules" [("Cabinet",213)] aq .nil)))) (.seq (.ifs (cw .Is aP (.lit .bf)) (.seq (.ret (.lit .bf)) .pass) .pass) (.seq (.set 3 (.bx "numbers" [("Cabinet",221)] aq .nil)) (.seq (.ret (.comp [3] 3 (.one 2) (.eR aP) .no (bp aq aP))) .pass))))⟩
def YZ:aM:=⟨2,2,(.seq (.ret (.call 126 (dN (.bx "coins" [("Cabinet",223)] aq .nil) aE (.bx "fact_rules" [("Cabinet",213)] aq .nil)))) .pass)⟩
def Ww:aM:=⟨2,2,(.seq (.ret (.call 132 (dN (.bx "coins" [("Cabinet",223)] aq .nil) aE (.bx "fact_rules" [("Cabinet",213)] aq .nil)))) .pass)⟩
def Y':aM:=⟨4,5,(.seq (.expr (.call 42 (cC aE))) (.seq (.expr (.bx "check_pair" [("Cabinet",210)] aq (cS aP bh))) (.seq (.set 4 (.bx "numbers" [("Cabinet",221)] aq .nil)) (.seq (.ret (.call 139 (wm (.bx "coins" [("Cabinet",223)] aq .nil) aE (.bx "fact_rules" [("Cabinet",213)] aq .nil) (bR "coin") (.eL .index cB (cC aP)) (.eL .index cB (cC bh))))) .pass))))⟩
def WI:aM:=⟨1,1,(.seq (.expr (.call 41 (cC (aQ 0)))) .pass)⟩
def Za:aM:=⟨1,1,(.seq (.expr (.call 41 (cC (aQ 1)))) .pass)⟩
structure vz(T:Nat->Option aM):Prop where
 te:TE T
 h3:T 3=some xM
 zt:T 29=some xN
 nQ:T 232=some wZ
 zT:T 191=some Bb
 zw:T 234=some Z3
 zu:T 235=some P7
 Lr:T 11=some rQ
section
variable{T:Nat->Option aM}{d:Nat}{s:Sd}
theorem Wd.gr(W:Wd g d m hd cl q qc qf s)(D':k9 g' d)(G':Gr d g g'):Wd g' d m hd cl q qc qf s:=by
 have:=W.A.h;exact⟨D',⟨G'.at (by omega) W.C.o,G'.at (by omega) W.C.h,G'.at (by omega) W.C.c⟩,⟨G'.at (by omega) W.B.b,G'.at (by omega) W.B.c,G'.at (by omega) W.B.f⟩,W.K,W.A⟩
theorem Wd.at(W:Wd g d m hd cl q qc qf s)(e:Ex g g'):Wd g' d m hd cl q qc qf s:=W.gr (e.draw W.dr) (e.gr d)
theorem HX(hT:vz T){r:Nat}{e1 e2:Str}{y1 y2:D}(hr:g[r]?=some (.lst [.str e1,y1]))(he:decide (e1="")=decide (e2=""))(hy:o8 g 2 y1 y2)(h:∀g',Ex g g'->Q (.bl true) g'):a8 T (k+5) 191 [.ref r,.tup [.str e2,y2]] g Q E:=by
 refine call_of hT.zT rfl ?_;dsimp[Bb,a9,List.replicate];walk_at"";rw[he,beq_self_eq_true];walk_at"";exact S0 hT.te.h6 hT.te.h7 2 (k:=k) hy h
theorem Hm(hT:vz T){dd:D}{e:Str}{an:jE}{s':Sd}(hc:Fu T k g m hd cl dd e an s')(hn:e≠""->∀g',Ex g g'->Q (.ref g'.length) (g'++[.lst [.str "refused",.bf]]))(h:e=""->∀g' y hU,Fl m hd cl g g'->(hU=cl\/g.length<=hU)->gb g' m hd hU s'.lc s'.lf s'.hs s'.fs->jE.at g.length g' y an->Q (.ref g'.length) (g'++[.lst [.str "",y]])):a8 T (k+11) 234 [.ref m,dd] g Q E:=by
 refine call_of hT.zw rfl ?_;dsimp[Z3,a9,List.replicate];walk_at"";refine hc _ _ (λz g' e'=>SU ?_) λz g' y hU F iq C' A'=>xO (by simp) (h z g' y hU F iq C' A');walk_at"";exact hn z g' e'
theorem SO(hT:vz T)(W:Wd g d m hd cl q qc qf s)(hf:s.lf<=48){dd:D}{z0 z1 z4:Option D}(S:Step T (k+1) g m hd cl q qc qf s dd)(h:∀g' hU s',Wd g' d m hd hU q qc qf s'->s'.lf<=s.lf+1->N.nx [z0,z1,some (.ref m),some (.ref q),z4,some dd] g') :
  wpS (a8 T (k+12)) (match rQ.body with|.seq _ (.seq _ (.seq _ (.seq (.eM _ _ (.seq _ b)) _)))=>b|x=>x) N [z0,z1,some (.ref m),some (.ref q),z4,some dd] g E:=by
 have ad:=W.A.h;have lq:=m8 W.B.f;have lm:=m8 W.C.h;have fin:∀g5 hU s',Wd g5 d m hd hU q qc qf s'->s'.lf<=s.lf+1->a8 T (k+12) 207 [.ref m,.ref q] g5 (λy g6=>y=.bl true/\∃hU s',Wd g6 d m hd hU q qc qf s'/\s'.lf<=s.lf+1) E:=λg5 hU s' W5 hl=>by
  have:=W5.K.fl;exact X' (k:=k+6) hT.te W5.C W5.B W5.K.K W5.K.inc (by omega) λg6 e6=>⟨rfl,hU,s',W5.at e6,hl⟩
 obtain⟨e,an,s',ok,K',l',hc,hb⟩:=S;dsimp[rQ];walk_at"";by_cases he:e=""
 ·refine Hm (k:=k+1) hT hc (λz=>absurd he z) λ_ g1 y hU F1 iq C1 A1=>?_;have e2:=Ex.snoc g1 (O.lst [D.str "",y]);have s2:=c7 (g:=g1) (o:=O.lst [D.str "",y]);have F2:=F1.trans (Ex.fl e2);have l1:=F1.len;walk_at"";refine hb _ F2 (W.box F2) _ _ (λz=>absurd he z) λ_ g3 y3 F3 B3 A3=>?_;have Kf:hU<g1.length:=m8 C1.c;have ne:hU≠q/\hU≠qc/\hU≠qf:=by omega
  have C3:gb g3 m hd hU s'.lc s'.lf s'.hs s'.fs:=⟨F3.at (by omega) (e2.at C1.o),F3.at (by omega) (e2.at C1.h),F3.at ne (e2.at C1.c)⟩
  have W3:Wd g3 d m hd hU q qc qf s':=⟨F3.draw (F2.draw W.dr (by omega)) (by omega),C3,B3,K' he,⟨by omega⟩⟩
  have A1':jE.at g.length g3 y an:=by
   cases an with
   |val d=>exact A1
   |lst l =>
    obtain⟨r,rfl,lr,er⟩:=A1;exact⟨r,rfl,lr,F3.at (by omega) (e2.at er)⟩
  walk_at"";refine HX (k:=k+7) hT (F3.at (by omega) s2) rfl (jE.QX ok A1' A3) λg4 e4=>?_;walk_at"";refine b0 T _ _ _ _ _ _ _ _ (λy g6 z=>?_) (λ_ _ z=>z) (fin g4 hU s' (W3.at e4) l');obtain⟨rfl,Al,s2,W6,hl⟩:=z;walk_at"";exact h g6 Al s2 W6 hl
 ·refine Hm (k:=k+1) hT hc (λ_ g1 e1=>?_) λz=>absurd z he;have e2:=e1.trans (Ex.snoc g1 (O.lst [D.str "refused",.bf]));have s2:=c7 (g:=g1) (o:=O.lst [D.str "refused",.bf]);walk_at"";refine hb _ (Ex.fl e2) (W.B.at e2) _ _ (λ_ g3 e3=>?_) λz=>absurd z he;walk_at"";refine HX (k:=k+7) hT (e3.at s2) (by rw[ax he];decide +kernel) .bf λg4 e4=>?_;walk_at"";refine b0 T _ _ _ _ _ _ _ _ (λy g6 z=>?_) (λ_ _ z=>z) (fin g4 cl s (W.at (e2.trans (e3.trans e4))) (by omega));obtain⟨rfl,Al,s2,W6,hl⟩:=z;walk_at"";exact h g6 Al s2 W6 hl
theorem Nl(hT:vz T)(W:Wd g d m hd cl q qc qf s)(hf:s.fs.length<=50)(h:∀dd g',Wd g' d m hd cl q qc qf s->(∀k,Step T k g' m hd cl q qc qf s dd)->Q dd g'):a8 T (k+6) 235 [.ref d,.ref q] g Q E:=by
 have ad:=W.A.h;have h4:=hT.te.td.h4;have O1:=W.K.K;have hz:=O1.len;have nl:=M7 s.hs;have lf':=m8 W.B.f;refine call_of hT.zu rfl ?_;dsimp[P7,a9,List.replicate];walk_at"";refine k7 W.B.b rfl H9 ?_;walk_at"";refine qN W.B.c (by simp[fP];omega) ?_;rw[Y3];walk_at"";refine D9 c7 O1.inc (by omega) ?_;have e1:=(Ex.snoc g (O.lst (b7 (nums s.hs)))).trans (Ex.snoc _ (O.lst (b7 (nums s.hs))));have s1:=c7 (g:=g++[O.lst (b7 (nums s.hs))]) (o:=O.lst (b7 (nums s.hs)));have ls:g.length<(g++[O.lst (b7 (nums s.hs))]).length:=by simp
 generalize (g++[O.lst (b7 (nums s.hs))]).length=sr at *;generalize (g++[O.lst (b7 (nums s.hs))])++[_]=g1 at *;rw[N3] at s1;have W1:=W.at e1;have zl:((nums s.hs).map λn:Nat=>(n:Int)).length<=100:=by rw[ao];omega
 walk_at"";refine j8 (k:=k+4) h4 W1.dr (by decide) (by decide) λt g2 _ _ D2 G2=>?_;have W2:=W1.gr D2 G2;have s2:=G2.at (by omega) s1;have pO:∀{g3:G} {Q:KD},Wd g3 d m hd cl q qc qf s->(∀(c:c8) g4,CB c->Wd g4 d m hd cl q qc qf s->Q c.d g4)->a8 T (k+5) 206 [.ref d,.ref q] g3 Q E:=λW3 H =>
  YG (k:=k+2) hT.te W3.B O1 W3.dr λc g4 hc D4 G4=>H c g4 hc (W3.gr D4 G4)
 have qr:∀{g3:G} {Q:KD} {c:c8},CB c->Wd g3 d m hd cl q qc qf s->(∀(c:c8) g4,CB c->Wd g4 d m hd cl q qc qf s->Q c.d g4)->a8 T (k+5) 14 [.ref d,c.d] g3 Q E:=λhc W3 H =>
  Zi (k:=k+2) h4 hT.te.td.h5 hT.te.zW hc W3.dr λc' g5 qa D5 G5=>H c' g5 qa (W3.gr D5 G5)
 have num:∀{g3:G} {Q:KD},Wd g3 d m hd cl q qc qf s->g3[sr]?=some (.lst (((nums s.hs).map λn:Nat=>(n:Int)).map .int))->(∀(v:Int) g4,Wd g4 d m hd cl q qc qf s->g4[sr]?=some (.lst (((nums s.hs).map λn:Nat=>(n:Int)).map .int))->Gr d g3 g4->Q (.int v) g4)->a8 T (k+5) 37 [.ref d,.ref sr] g3 Q E:=λ{g3 Q} W3 s3 H =>
  AN (k:=k+1) hT.te.td s3 (by omega) zl W3.dr λv g4 D4 G4=>H v g4 (W3.gr D4 G4) (G4.at (by omega) s3) G4
 walk_at"";have li:∀l:List Nat,(b7 l).length=l.length:=λl=>by simp[b7]
 refine if2 (λ_=>?_) (λ_=>?_)
 ·refine js ?_;walk_at"";refine pO W2 λc g3 hc W3=>?_;walk_at"";refine qr hc W3 λc g4 hc W4=>?_;walk_at"";exact h _ g4 W4 λk=>ID hT.te W4 hc
 have rest:wpS (a8 T (k+5)) (match P7.body with|.seq _ (.seq _ (.seq _ b))=>b|x=>x) ⟨λ_ g'=>Q .bf g',Q,λ_ _=>False,λ_ _=>False⟩ [some (.ref d),some (.ref q),some (.ref sr),some (.int t),none,none,none] g2 E:=by
  dsimp[P7];walk_at"";refine if2 (λ_=>?_) (λ_=>?_)
  ·walk_at"";refine num W2 s2 λv g3 W3 _ _=>?_;walk_at"";refine pO W3 λc g4 hc W4=>?_;walk_at"";refine qr hc W4 λc g5 hc W5=>?_;walk_at"";exact h _ g5 W5 λk=>Ya hT.te W5 hc
  walk_at"";refine if2 (λ_=>?_) (λ_=>?_)
  ·walk_at"";refine num W2 s2 λv g3 W3 _ _=>?_;walk_at"";exact h _ g3 W3 λk=>ZP hT.te W3 hf
  walk_at"";refine if2 (λ_=>?_) (λ_=>?_)
  ·walk_at"";refine num W2 s2 λv g3 W3 s3 _=>?_;walk_at"";refine num W3 s3 λu g4 W4 _ _=>?_;walk_at"";exact h _ g4 W4 λk=>Xf hT.te W4 hf
  walk_at"";refine if2 (λ_=>?_) (λ_=>?_)
  ·walk_at"";refine k7 W2.B.b rfl om ?_;walk_at"";refine qN W2.B.f (by simp[gK];omega) ?_;rw[Bw];walk_at"";refine D9 c7 W.K.inc (by rw[M7];exact hf) ?_;have e3:=(Ex.snoc g2 (O.lst (b7 (nums s.fs)))).trans (Ex.snoc _ (O.lst (b7 (nums s.fs))));have s3:=c7 (g:=g2++[O.lst (b7 (nums s.fs))]) (o:=O.lst (b7 (nums s.fs)));rw[N3] at s3;walk_at"";have W3:=W2.at e3;have l2:=(e1.gr d).trans G2;have l2:=l2.len;refine AN (k:=k+1) hT.te.td (ns:=(nums s.fs).map λn:Nat=>(n:Int)) (by rw[N3] at *;exact s3) (by simp;omega) (by simp[nums];omega) W3.dr λv g4 D4 G4=>?_;walk_at"";exact h _ g4 (W3.gr D4 G4) λk=>YL hT.te (W3.gr D4 G4)
  walk_at"";refine OR (k:=k+3) h4 hT.zt W2.dr λx g3 ho D3 G3=>?_;have W3:=W2.gr D3 G3;have s3:=G3.at (by omega) s2;walk_at"";refine Gq (k:=k) hT.te hT.nQ W3.B O1 W3.dr (by omega) λv g4 D4 G4=>?_;have W4:=W3.gr D4 G4;have s4:=G4.at (by omega) s3;walk_at"";refine if2 (λ_=>?_) (λ_=>?_)
  ·walk_at"";refine Gq (k:=k) hT.te hT.nQ W4.B O1 W4.dr (by omega) λu g5 D5 G5=>?_;walk_at"";exact h _ g5 (W4.gr D5 G5) λk=>ZO hT.te (W4.gr D5 G5) ho
  walk_at"";refine U4 (b0 T _) (km (b0 T _) ?_);walk_at"";refine vf (k:=k+4) hT.te.td W4.B O1.inc (by omega) λg5 r5 e5 l5 pV=>?_;have W5:=W4.at e5;have s5:=e5.at s4;have n5:(numsOf s.hs (fX x) v).length<=9:=aJ (numsOf_len _ _ _) hz;have l5':d<r5:=by have:=m8 s4;omega
  refine⟨r5,_,rfl,a7 pV,b7 (numsOf s.hs (fX x) v),λi ys Z g'=>k9 g' d/\Gr d g5 g'/\(∃ns:List Int,ys=ns.map .int)/\ys.length<=i/\∃z1 z2,Z=[some (.ref d),z1,z2],by rw[li];omega,λi ys Z g' p=>⟨w6 (a7 (p.2.1.at (by omega) pV)),p.2.2.2.1⟩,⟨W5.dr,Gr.refl _ _,⟨[],rfl⟩,by simp,none,none,rfl⟩,λi y ys Z g' hy p=>?_,λys Z g6 p=>?_⟩
  ·obtain⟨D6,G6,⟨ns,rfl⟩,hl,z1,z2,rfl⟩:=p;rw[b7,aB,ae] at hy;obtain⟨j,_,rfl⟩:=hy;refine p6 ?_
   try show dw _ _ _ _ _ _
   walk_at"";refine j8 (k:=k+4) h4 D6 (by decide) (by decide) λr g7 _ _ D7 G7=>?_;walk_at"";refine if2 (λ_=>?_) (λ_=>?_)
   ·walk_at"";exact⟨D7,G6.trans G7,⟨ns++[(j:Int)],by simp⟩,by simp at hl ⊢;omega,_,_,rfl⟩
   ·exact⟨D7,G6.trans G7,⟨ns,rfl⟩,by omega,_,_,rfl⟩
  obtain⟨D6,G6,⟨ns,rfl⟩,hl,z1,z2,rfl⟩:=p;rw[li,ao] at hl;have W6:=W5.gr D6 G6;have e7:=Ex.snoc g6 (O.lst (ns.map D.int));have s7:=c7 (g:=g6) (o:=O.lst (ns.map D.int));have W7:=W6.at e7;have t7:=e7.at (G6.at (by omega) s5);have l7:sr<g6.length:=m8 (G6.at (by omega) s5);generalize g6++[_]=g7 at *;generalize g6.length=r7 at *;walk_at"";refine num W7 t7 λv2 g8 W8 _ G8=>?_;have s8:=G8.at (by omega) s7;walk_at"";have e9:=Ex.snoc g8 (O.lst [D.int v2]);have s9:=c7 (g:=g8) (o:=O.lst [D.int v2]);have W9:=W8.at e9;have r9:=e9.at s8;have l9:d<g8.length:=W8.dr.lt;have l9':=m8 s8;have Kf:=m8 W8.C.c;generalize g8++[_]=g9 at *;generalize g8.length=u9 at *;refine j8 (k:=k+4) h4 W9.dr (by decide) (by decide) λr qh _ _ D10 CN=>?_;have W10:=W9.gr D10 CN;have Dm:=CN.at (by omega) s9;have JP:=CN.at (by omega) r9;walk_at"";obtain⟨ms,nM,fin⟩:∃ms:List Int,ms.length<=1/\(∀{Q:KD},Q (.ref qh.length) (qh++[.lst (ms.map .int)])->cK (.bin .Mult) [.ref u9,.int (if decide (r=0)=true then 1 else 0)] qh Q):=by
   by_cases hr:r=0
   ·refine⟨[v2],by simp,λq=>?_⟩;rw[aL hr];exact EK Dm (by decide) (by decide) (by simp) q
   ·refine⟨[],by simp,λq=>?_⟩;rw[ax hr];exact EK Dm (by decide) (by decide) (by simp) q
  refine fin ?_;have wz:=Ex.snoc qh (O.lst (ms.map D.int));have JE:=c7 (g:=qh) (o:=O.lst (ms.map D.int));have JO:=wz.at JP;have CH:=W10.at wz;generalize qh++[_]=wq at *;generalize qh.length=u11 at *;walk_at"";refine Ss JO JE (by simp;omega) ?_;have jw:=Ex.snoc wq (O.lst (ns.map D.int++ms.map D.int));have JD:=c7 (g:=wq) (o:=O.lst (ns.map D.int++ms.map D.int));have IZ:=CH.at jw;have k1:=m8 CH.C.c;have k2:=m8 CH.B.f;walk_at"";exact h _ _ IZ λk=>ZQ (ns:=ns++ms) hT.te IZ ho (by rw[cv];exact JD) (by simp;omega) (by omega)
 dsimp[P7] at rest;walk_at"";rw[ao,ao];refine if2 (λ_=>?_) (λ_=>?_)
 ·walk_at"";refine if2 (λ_=>?_) (λ_=>?_)
  ·walk_at"";refine pO W2 λc g3 hc W3=>?_;walk_at"";refine qr hc W3 λc g4 hc W4=>?_;walk_at"";exact h _ g4 W4 λk=>ID hT.te W4 hc
  ·exact rest
 ·exact og rest
theorem Qe(hT:vz T):a8 T (k+13) 11 [.ref 0] [.nR (ns.map .int)] (λd _=>d=.bl true) je:=by
 have h4:=hT.te.td.h4;refine call_of hT.Lr rfl ?_;dsimp[rQ,a9,List.replicate];walk_at"";refine NW (k:=k+11) hT.h3 (a:=0) (ns:=ns) rfl λd g D0 _ _=>?_;have dl:=D0.lt;walk_at"";refine Nh (k:=k+11) hT.te.tc ⟨rfl,?_⟩;walk_at"";refine Ng (k:=k+11) hT.te.td ?_;have e1:Ex g ((g++[fQ (g.length+1) (g.length+2) 0 0,.bO [],.bO []])++[.bO (E0 ((g++[fQ (g.length+1) (g.length+2) 0 0,.bO [],.bO []]).length+1) ((g++[fQ (g.length+1) (g.length+2) 0 0,.bO [],.bO []]).length+2) 0 0),.bO [],.bO []]):=⟨by simp,λi hi=>by rw[aH (by simp;omega),aH hi]⟩
 have W:Wd ((g++[fQ (g.length+1) (g.length+2) 0 0,.bO [],.bO []])++[.bO (E0 ((g++[fQ (g.length+1) (g.length+2) 0 0,.bO [],.bO []]).length+1) ((g++[fQ (g.length+1) (g.length+2) 0 0,.bO [],.bO []]).length+2) 0 0),.bO [],.bO []]) d g.length (g.length+1) (g.length+2) (g++[fQ (g.length+1) (g.length+2) 0 0,.bO [],.bO []]).length ((g++[fQ (g.length+1) (g.length+2) 0 0,.bO [],.bO []]).length+1) ((g++[fQ (g.length+1) (g.length+2) 0 0,.bO [],.bO []]).length+2) ⟨0,0,[],[]⟩:=by
  refine⟨e1.draw D0,⟨?_,?_,?_⟩,⟨?_,?_,?_⟩,⟨⟨List.Pairwise.nil,by decide,λp hp=>by cases hp⟩,λj hj=>(by cases hj),List.Pairwise.nil,λj hj=>(by cases hj),by decide⟩,⟨by simp;omega⟩⟩
  all_goals first|(simp[fP,gK,List.getElem?_append];done)|(rw[cP (by simp)];simp[fP,gK];done)
 generalize ((g++[fQ (g.length+1) (g.length+2) 0 0,.bO [],.bO []])++[.bO (E0 ((g++[fQ (g.length+1) (g.length+2) 0 0,.bO [],.bO []]).length+1) ((g++[fQ (g.length+1) (g.length+2) 0 0,.bO [],.bO []]).length+2) 0 0),.bO [],.bO []])=g1 at *;generalize (g++[fQ (g.length+1) (g.length+2) 0 0,.bO [],.bO []]).length+2=qf at *;generalize (g++[fQ (g.length+1) (g.length+2) 0 0,.bO [],.bO []]).length+1=qc at *;generalize (g++[fQ (g.length+1) (g.length+2) 0 0,.bO [],.bO []]).length=q at *;generalize g.length+2=cl at *;generalize g.length+1=hd at *;generalize g.length=m at *;walk_at"";refine qQ (b0 T _) (xu (b0 T _) ?_);walk_at"";refine j8 (k:=k+11) h4 W.dr (by decide) (by decide) λr g2 r0 r1 D2 G2=>?_;walk_at"";refine⟨by omega,by omega,_,λi Z g'=>(∃cl s,Wd g' d m hd cl q qc qf s/\s.lf<=i)/\∃z4 z5,Z=[some (.ref 0),some (.ref d),some (.ref m),some (.ref q),z4,z5],λ_ _ _ _=>S1,⟨⟨cl,_,W.gr D2 G2,aj _⟩,none,none,rfl⟩,λi y Z g3 hy p=>?_,λZ g3 p=>?_⟩
 ·obtain⟨⟨cl,s,W3,hl⟩,z4,z5,rfl⟩:=p;obtain⟨hi,rfl⟩:=vj hy;have fl:=W3.K.fl;refine p6 ?_
  try show wpS _ _ _ _ _ _
  walk_at"";refine Nl (k:=k+6) hT W3 (by omega) λdd g4 W4 S=>?_;show wpS (a8 T (k+12)) (match rQ.body with|.seq _ (.seq _ (.seq _ (.seq (.eM _ _ (.seq _ b)) _)))=>b|x=>x) _ _ _ _;exact SO (k:=k) hT W4 (by omega) (S _) λg' hU s' W' tP=>⟨⟨hU,s',W',by omega⟩,_,_,rfl⟩
 ·obtain⟨_,z4,z5,rfl⟩:=p
  try show wpS _ _ _ _ _ _
  walk_at""
  rfl
end
end M
namespace Lk
open PySem L2 M
def top(i:Nat):Stmt:=PySem.Challenge.pw_trussel_k44_whole_cabinets_by_any_deeds.main.body.getD i (.Pass ⟨0,0,0,0⟩)
def Nj:Stmt->List Stmt
 |.ClassDef (body:=b) ..=>b
 |_=>[]
def FH(i j:Nat):Stmt:=(Nj (top i)).getD j (.Pass ⟨0,0,0,0⟩)
def F:List RF:=[⟨41,"_wall",["k"],1,0,Tr⟩,⟨38,"is_number",["thing"],1,18,Bn⟩,⟨1,"number_from",["number","least","most"],3,19,Z1⟩,⟨2,"good_marks",["marks","least","spot"],1,20,K7⟩,⟨15,"within",["one","other"],2,21,NK⟩,⟨12,"good_coin",["coin","lower","lower_marks","upper","upper_marks","year","good_lower","good_upper"],1,28,C9⟩,⟨39,"check_coin",["coin"],1,29,N9⟩,⟨18,"check_coins",["coins","coin"],1,30,Z2⟩,⟨83,"check_place",["coins","place"],2,31,Yw⟩,⟨40,"check_side",["side"],1,32,T8⟩,⟨19,"die_field",["side"],1,33,Bm⟩,⟨177,"with_thing",["things","at","thing"],3,34,T7⟩,⟨74,"places_of",["coins","word","thing","field"],3,35,X9⟩,⟨75,"check_die",["coins","side","die"],3,36,Bl⟩,⟨20,"dies_of",["coins","side","field"],2,37,AK⟩,⟨42,"check_anvils",["anvils"],1,42,Zb⟩,⟨88,"good_rule",["coins","rule","word","one","other"],2,43,a21⟩,⟨89,"check_rules",["coins","rules","at","rule"],2,44,Yx⟩,⟨90,"stand_of",["places"],1,45,Qj⟩,⟨91,"with_coin",["stand","place"],2,46,a19⟩,⟨92,"more_worn",["one","other","side","field"],2,47,a20⟩,⟨93,"later",["one","other"],2,48,Vm⟩,⟨94,"worn_stands",["coins"],1,49,YC⟩,⟨95,"later_stands",["coins"],1,50,Zc⟩,⟨96,"die_stands",["coins"],1,51,XD⟩,⟨97,"needed_stands",["coins","rules","needed","word","one","other","first","place"],2,52,Wx⟩,⟨98,"check_asked",["coins","anvils","rules"],3,54,Yv⟩,⟨99,"bounds_of",["coins","anvils","rules"],3,55,a22⟩,⟨100,"dies_in_use",["bounds","stand","place","struck","left"],3,56,XE⟩,⟨101,"next_fault",["bounds","stand","place"],3,57,XG⟩,⟨115,"follows",["bounds","stand","place"],3,59,Qg⟩,⟨116,"followers",["bounds","stand"],2,60,XF⟩,⟨117,"reached_stands",["bounds","led_to","told","stand","place"],1,61,WK⟩,⟨121,"ways_on",["bounds","ways","stand"],1,63,NJ⟩,⟨122,"step_on",["bounds","ways","stand","number","choices","left","at"],4,64,NH⟩,⟨123,"numbered_order",["bounds","ways","number","order","stand","left","place"],3,65,WJ⟩,⟨124,"first_order",["bounds","ways"],1,66,Yz⟩,⟨125,"least_order",["coins","anvils","rules"],3,67,YA⟩,⟨126,"how_many",["coins","anvils","rules"],3,68,Qh⟩,⟨129,"shown_paper",["bounds","stands"],1,70,YB⟩,⟨132,"paper_of",["coins","anvils","rules"],3,71,Qi⟩,⟨136,"check_thing",["coins","word","thing"],3,73,Yy⟩,⟨137,"check_pair",["coins","word","one","other"],4,74,XC⟩,⟨138,"why_of",["coins","anvils","rules","word","one","other","one_ahead","other_ahead","one_order","other_order"],6,75,Vn⟩,⟨139,"told_of",["coins","anvils","rules","word","one","other"],6,76,NI⟩,⟨194,"least_free",["dies","number"],1,78,By⟩,⟨3,"_law_open",["_law_script"],1,81,xM⟩,⟨4,"_law_pull",["_law_draw","_law_total_of","_law_cell","_law_got","_law_seed"],2,82,M6⟩,⟨5,"_law_far",["_law_draw","_law_number"],1,83,qz⟩,⟨36,"_law_near",["_law_draw","_law_total_of"],2,84,BR⟩,⟨6,"_law_num",["_law_found"],1,85,vq⟩,⟨7,"_law_like",["_law_found","_law_due"],2,86,E9⟩,⟨8,"_law_marks_ok",["_law_marks"],1,87,V5⟩,⟨13,"_law_coin_ok",["_law_coin"],1,88,P5⟩,⟨22,"_law_any_coin",["_law_draw","_law_menu","_law_lower","_law_upper","_law_year"],1,89,xj⟩,⟨14,"_law_bent_coin",["_law_draw","_law_coin","_law_way","_law_lower","_law_lower_marks","_law_upper","_law_upper_marks","_law_year","_law_odd","_law_number"],2,90,Y0⟩,⟨37,"_law_number_of",["_law_draw","_law_numbers"],2,91,Bo⟩,⟨29,"_law_side",["_law_draw"],1,92,xN⟩,⟨191,"_law_same_end",["_law_found","_law_due"],2,93,Bb⟩,⟨195,"_law_box",[],0,94,Ax⟩,⟨196,"_law_box_list",["_law_b"],1,95,AZ⟩,⟨197,"_law_b_put",["_law_b","_law_coin"],2,96,BQ⟩,⟨198,"_law_b_out",["_law_b","_law_number","_law_fact"],2,97,BP⟩,⟨199,"_law_b_tell",["_law_b","_law_one","_law_other"],3,98,Cj⟩,⟨200,"_law_other_die",["_law_coin","_law_side_here","_law_die","_law_row"],3,99,Bp⟩,⟨201,"_law_b_of",["_law_b","_law_side_here","_law_die","_law_at"],3,100,Aw⟩,⟨202,"_law_b_one",["_law_b","_law_side_here","_law_die","_law_other","_law_found","_law_number"],4,101,xJ⟩,⟨203,"_law_b_two",["_law_b","_law_side_here","_law_die","_law_numbers","_law_found","_law_number","_law_fresh"],4,102,xK⟩,⟨204,"_law_b_do",["_law_b","_law_deed","_law_word","_law_old"],2,103,oh⟩,⟨205,"_law_cabinet_do",["_law_cabinet","_law_deed","_law_word"],2,104,z6⟩,⟨234,"_law_cabinet_try",["_law_cabinet","_law_deed"],2,105,Z3⟩,⟨206,"_law_new_coin",["_law_draw","_law_b","_law_some","_law_coin","_law_other","_law_grown"],2,106,Ba⟩,⟨232,"_law_box_die",["_law_draw","_law_b","_law_side_here","_law_at"],3,107,wZ⟩,⟨235,"_law_box_deed",["_law_draw","_law_b","_law_numbers","_law_turn","_law_side_here","_law_die","_law_some"],2,108,P7⟩,⟨207,"_law_box_stands",["_law_cabinet","_law_b","_law_numbers"],2,109,Bx⟩,⟨11,"law",["_law_script","_law_draw","_law_cabinet","_law_b","_law_turn","_law_deed"],1,110,rQ⟩]
def Ms:List RM:=[⟨113,"Bounds","__init__","Bounds.__init__",["self","coins","anvils","rules"],4,53,0,Yu⟩,⟨208,"Cabinet","__init__","Cabinet.__init__",["self"],1,79,0,V7⟩,⟨209,"Cabinet","check_number","Cabinet.check_number",["self","number"],2,79,1,A9⟩,⟨210,"Cabinet","check_pair","Cabinet.check_pair",["self","one","other"],3,79,2,L6⟩,⟨211,"Cabinet","numbers_of","Cabinet.numbers_of",["self","side","die","field"],3,79,3,L5⟩,⟨212,"Cabinet","give_die","Cabinet.give_die",["self","side","numbers","die","field","number"],4,79,4,O3⟩,⟨213,"Cabinet","fact_rules","Cabinet.fact_rules",["self","places"],1,79,5,WS⟩,⟨214,"Cabinet","put","Cabinet.put",["self","coin"],2,79,6,M3⟩,⟨215,"Cabinet","right","Cabinet.right",["self","number","coin","old"],3,79,7,S7⟩,⟨216,"Cabinet","out","Cabinet.out",["self","number"],2,79,8,Z4⟩,⟨217,"Cabinet","tell","Cabinet.tell",["self","one","other"],3,79,9,V6⟩,⟨218,"Cabinet","untell","Cabinet.untell",["self","number"],2,79,10,P6⟩,⟨219,"Cabinet","one_die","Cabinet.one_die",["self","side","die","other","numbers"],4,79,11,K8⟩,⟨220,"Cabinet","two_dies","Cabinet.two_dies",["self","side","die","numbers","all_of_die","number","new_die"],4,79,12,J5⟩,⟨221,"Cabinet","numbers","Cabinet.numbers",["self"],1,79,13,O0⟩,⟨222,"Cabinet","coin","Cabinet.coin",["self","number"],2,79,14,O4⟩,⟨223,"Cabinet","coins","Cabinet.coins",["self"],1,79,15,T2⟩,⟨224,"Cabinet","facts","Cabinet.facts",["self"],1,79,16,T1⟩,⟨225,"Cabinet","order","Cabinet.order",["self","anvils","places","numbers"],2,79,17,Zp⟩,⟨226,"Cabinet","many","Cabinet.many",["self","anvils"],2,79,18,YZ⟩,⟨227,"Cabinet","paper","Cabinet.paper",["self","anvils"],2,79,19,Ww⟩,⟨228,"Cabinet","told","Cabinet.told",["self","anvils","one","other","numbers"],4,79,20,Y'⟩,⟨229,"Cabinet","fewest","Cabinet.fewest",["self"],1,79,21,WI⟩,⟨230,"Cabinet","twin","Cabinet.twin",["self"],1,79,22,Za⟩]
def con:List (Str×D):=[("LAST_SPOT",.int 7),("MOST_COINS",.int 9),("LAST_DIE",.int 99),("LAST_YEAR",.int 9999),("SIDES",.tup [(.str "lower"),(.str "upper")]),("MOST_ANVILS",.int 9),("RULE_WORDS",.tup [(.str "coin"),(.str "lower"),(.str "upper")]),("YEAR_FIELD",.int 4)]
def gd:List (Str×List D):=[("DIE_FIELDS",[.tup [.str "lower",.int 0],.tup [.str "upper",.int 2]])]
def exc:List Str:=["BadAnvils","BadCoin","BadList","BadRule","BadSide","Full","MintError","NoCoin","NoDie","NoFact","NoOrder","NoPlace","SameOne","TooMany"]
def c0:f7:=⟨[],[],true,F.map λr=>(r.nm,r.id),con,["len","enumerate","list","tuple","isinstance","all","range","int","bool","str","sorted","set","sum","reversed"],exc,gd,[("Bounds",113),("Cabinet",208)],Ms.map λr=>(r.nm,r.cl,r.id),[("size","Bounds"),("full","Bounds"),("room","Bounds"),("worn_by_place","Bounds"),("later_by_place","Bounds"),("lower_dies","Bounds"),("needed_by_place","Bounds"),("held","Cabinet"),("claims","Cabinet"),("last_coin","Cabinet"),("last_fact","Cabinet")],true,true⟩
noncomputable abbrev T:Nat->Option aM:=rT F Ms
theorem tx:kO c0 F Ms top FH:=by
 refine⟨rfl,rfl,by decide +kernel,by decide +kernel,by decide +kernel,by decide +kernel,?_,?_,?_,?_⟩
 all_goals
  repeat first
   |exact BF.nil
   |exact BM.nil
   |exact YF.nil
   |exact YM.nil
   |refine YF.cons (by kernel_rfl) ?_
   |refine YM.cons (by kernel_rfl) ?_
   |refine BF.cons (λ_ _ _ _ _ _=>(by(repeat refine De λ_=>?_);exact Dd rfl)) ?_
   |refine BM.cons (λ_ _ _ _ _ _=>(by(repeat refine De λ_=>?_);exact Dd rfl)) ?_
inductive rJ:List DictEntry->List (Str×V)->Prop
 |nil:rJ [] []
 |cons {h:Int} {x:Str} {t:Tok} {u:Value} {v:V} {es:List DictEntry} {vs:List (Str×V)} (r:RelV v u) (q:rJ es vs):rJ (⟨h,.str x t,u⟩::es) ((x,v)::vs)
theorem rJ.find{es vs}(x:Str)(h:rJ es vs):E1 (vs.lookup x) (findBy Value.isStrOf es.toArray x):=by
 induction h with
 |nil=>trivial
 |cons r q ih =>
  rename_i h y t u v es vs;unfold findBy at ih ⊢;rw[List.find?_toArray] at ih ⊢;rw[iw,cz];by_cases e:x=y
  ·rw[show(x==y)=true from by simp[e],show Value.isStrOf x (.str y t)=true from by simp[Value.isStrOf,e]];exact r
  ·rw[show(x==y)=false from by simpa using e,show Value.isStrOf x (.str y t)=false from by simp[Value.isStrOf];exact λz=>e (z.symm)];exact ih
theorem all_mk{l:PySem.W.OpenLaw}{w:World}{K:PySem.W.Frag}{h:Heap}{mg:Str->Option Value}{fa:Addr}{An Am wo:Addr}{t0 t1 t2 t3 uF uE t5 uD uC uB t7 oW oV oU oS:Tok}{Ah:Array (Option Value)}{Aj:Nat}{Ag:Array (Option Value)}{Ai:Nat}{Lw:Nat}{mE mD:Int}(X:K.In h)(G:h.Ns mainGlobals mg)(KP:mg "law"=some (.ref fa))(I:kQ K c0 F Ms top FH)(e0:PySem.W.nsIn K mainGlobals "LAST_SPOT"=some (some (Value.int 7 t0)))(e1:PySem.W.nsIn K mainGlobals "MOST_COINS"=some (some (Value.int 9 t1)))(e2:PySem.W.nsIn K mainGlobals "LAST_DIE"=some (some (Value.int 99 t2)))(e3:PySem.W.nsIn K mainGlobals "LAST_YEAR"=some (some (Value.int 9999 t3)))(e4:PySem.W.nsIn K mainGlobals "SIDES"=some (some (.ref An)))(LW:K.lookup An=some ⟨.type "tuple",none,.seq #[Value.str "lower" uF,Value.str "upper" uE] Aj,Ah⟩)(e5:PySem.W.nsIn K mainGlobals "MOST_ANVILS"=some (some (Value.int 9 t5)))(e6:PySem.W.nsIn K mainGlobals "RULE_WORDS"=some (some (.ref Am)))(LV:K.lookup Am=some ⟨.type "tuple",none,.seq #[Value.str "coin" uD,Value.str "lower" uC,Value.str "upper" uB] Ai,Ag⟩)(e7:PySem.W.nsIn K mainGlobals "YEAR_FIELD"=some (some (Value.int 4 t7)))(g0:PySem.W.nsIn K mainGlobals "DIE_FIELDS"=some (some (.ref wo)))(Lx:K.lookup wo=some ⟨.type "dict",none,.dict #[⟨mE,Value.str "lower" oW,Value.int 0 oV⟩,⟨mD,Value.str "upper" oU,Value.int 2 oS⟩] Lw,#[]⟩)(pL:mE=PyData.keyHash w.params "lower")(pK:mD=PyData.keyHash w.params "upper")(Lv:(wo==sysModules)=false)
  : ∃fd:FuncData,(∀(s:Shared) (v:Value),BindsTo s fd ⟨[v],[]⟩ [("_law_script",v)])/\∀base:Heap,K.In base->base.Ns mainGlobals mg->gy l.prog w K mg base (gN l.prog w) 80 fa fd ["_law_script"] (oG exc K 1 (a8 T 40 11)):=by
 have A:mK w K mg c0 T:=by
  refine MM I tx X G (λx d hx=>?_) (λx kvs hx=>?_)
  ·have hm:=aK hx;simp only[c0,con,List.mem_cons,List.mem_nil_iff,or_false] at hm;rcases hm with z|z|z|z|z|z|z|z
   ·cases z;exact⟨(.int 7),_,bS X G e0,⟨_,rfl⟩,λ_ _=>.int _⟩
   ·cases z;exact⟨(.int 9),_,bS X G e1,⟨_,rfl⟩,λ_ _=>.int _⟩
   ·cases z;exact⟨(.int 99),_,bS X G e2,⟨_,rfl⟩,λ_ _=>.int _⟩
   ·cases z;exact⟨(.int 9999),_,bS X G e3,⟨_,rfl⟩,λ_ _=>.int _⟩
   ·cases z;exact⟨.ref An,_,bS X G e4,rfl,λ_ _=>.tup (vs:=[.str "lower",.str "upper"]) (.inr ⟨_,_,_,LW,rfl,rfl,rfl,(by show 2<=sizeLine;decide),.cons ⟨_,rfl⟩ (.cons ⟨_,rfl⟩ (.nil))⟩) (.cons (.str _) (.cons (.str _) (.nil)))⟩
   ·cases z;exact⟨(.int 9),_,bS X G e5,⟨_,rfl⟩,λ_ _=>.int _⟩
   ·cases z;exact⟨.ref Am,_,bS X G e6,rfl,λ_ _=>.tup (vs:=[.str "coin",.str "lower",.str "upper"]) (.inr ⟨_,_,_,LV,rfl,rfl,rfl,(by show 3<=sizeLine;decide),.cons ⟨_,rfl⟩ (.cons ⟨_,rfl⟩ (.cons ⟨_,rfl⟩ (.nil)))⟩) (.cons (.str _) (.cons (.str _) (.cons (.str _) (.nil))))⟩
   ·cases z;exact⟨(.int 4),_,bS X G e7,⟨_,rfl⟩,λ_ _=>.int _⟩
  ·have hm:=aK hx;simp only[c0,gd,List.mem_cons,List.mem_nil_iff,or_false] at hm;have z:=hm
   ·cases z;have er:rJ [⟨mE,Value.str "lower" oW,Value.int 0 oV⟩,⟨mD,Value.str "upper" oU,Value.int 2 oS⟩] [("lower",.int 0),("upper",.int 2)]:=.cons (v:=.int 0) ⟨_,rfl⟩ (.cons (v:=.int 2) ⟨_,rfl⟩ (.nil));exact⟨wo,_,bS X G g0,⟨_,_,Lx,⟨⟨_,_,rfl,pL⟩,⟨⟨_,_,rfl,pK⟩,True.intro⟩⟩,Lv,λx=>er.find x⟩,.cons (λ_ _=>.int _) (.cons (λ_ _=>.int _) (.nil))⟩
 obtain⟨f,fd,O,a,t⟩:=HV I tx _ (bg (i:=75) rfl);cases KP.symm.trans (bS X G a);obtain⟨oc,od,kV,doc,pm,an,fG,ct,lI,rfl,lk,lx⟩:=O.fn.ex;exact⟨_,λs v=>.of_eq rfl,λbase mh ur=>UI mh ur A 40 11 _ _ fa _ rfl O⟩
theorem walk{l:PySem.W.OpenLaw}{q:Program}{loose:List Str}{XP:(Str->Option Value)->Heap->Prop}{YP:World->Heap->Prop}{d:DefRec}{K:Params->PySem.W.Frag}(hn:l.most=some 63)(tY:d.params.defaults=[])(hY:∀(w:World) (h:Heap),YP w h->(K w.params).In h)(F:∀ (w:World) (mg:Str->Option Value) (fa:Addr) (h:Heap),(K w.params).In h->h.Ns mainGlobals mg->mg d.name=some (.ref fa) ->
   ∃ fd:FuncData,(∀ (s:Shared) (u:Value),BindsTo s fd ⟨[u],[]⟩ [("_law_script",u)])/\∀ base:Heap,(K w.params).In base->base.Ns mainGlobals mg->gy l.prog w (K w.params) mg base (gN l.prog w) 80 fa fd ["_law_script"] (oG exc (K w.params) 1 (a8 T 40 11))) :
  PySem.W.WalkO q loose XP YP l.row.toRowW d [] (λf vs=>PySem.call f vs) :=
 L2.Pl (n:=63) (k:=80) (x:="_law_script") (CX:=λw=>gN l.prog w) (sp:=λw=>oG exc (K w.params) 1 (a8 T 40 11)) hn (by decide) tY ⟨rfl,by decide,by decide⟩ hY F (λw H a ns hl hO hS=>Vh hO hS (Qe (k:=27) ⟨⟨⟨⟨rfl,rfl⟩,rfl,rfl,⟨rfl,rfl⟩,⟨rfl,rfl⟩,rfl,rfl,rfl,rfl,rfl,rfl,rfl,rfl,rfl,rfl,rfl,rfl,rfl,rfl,rfl,rfl⟩,⟨rfl,rfl,rfl,rfl,rfl,rfl,rfl,rfl,rfl,rfl,rfl,rfl,rfl⟩,rfl,rfl,rfl,rfl,rfl,rfl,rfl,rfl,rfl,rfl,rfl,rfl,rfl,rfl,rfl⟩,rfl,rfl,rfl,rfl,rfl,rfl,rfl⟩)) λ_ _ _ _ _ ⟨_,_,_,_,_,_,_,z⟩=>z
end Lk
end _X
open _X
open PySem PySem.W PyProof.Rows
set_option maxRecDepth 100000 in
set_option maxHeartbeats 0 in
theorem PySem.Challenge.cw_trussel_k44_whole_cabinets_by_any_deeds_holds : PySem.Challenge.rw_trussel_k44_whole_cabinets_by_any_deeds.Holds := by
 w_on;o_law;k_head;(case hw=>w_witness2)
 k_fill
 refine Lk.walk (l:=PySem.Challenge.rw_trussel_k44_whole_cabinets_by_any_deeds) rfl rfl (fun w h Y=>PySem.W.kIn_of Y) ?F
 case F =>
  intro w mg fa h KX G hmg
  refine' Lk.all_mk KX G hmg ⟨?zz1,?zz2,?zz3,?zz4,?zz5,?zz6,?zz7⟩ ?_ ?_ ?_ ?_ ?_ ?_ ?_ ?_ ?_ ?_ ?_ ?_ ?_ ?_ ?_
  (case zz1=>repeat' first | (with_reducible show _=_;k_is) | exact M.PF.nil | apply M.PF.cons)
  (case zz2=>repeat' first | (with_reducible show _=_;k_is) | exact M.PM.nil | apply M.PM.cons)
  (case zz3=>repeat' first | (with_reducible show _=_;k_is) | exact M.PC.nil | apply M.PC.cons)
  (case zz4=>repeat' first | (with_reducible show _=_;k_is) | exact M.PA.nil | apply M.PA.cons)
  (case zz5=>repeat' first | (with_reducible show _=_;k_is) | exact M.PB.nil | apply M.PB.cons)
  (case zz6=>repeat' first | (with_reducible show _=_;first | (with_reducible show PySem.W.excIn _ _ _ _=true;k_exc) | k_is) | exact M.PX.nil | apply M.PX.cons)
  (case zz7=>kernel_rfl)
  all_goals try (with_reducible show _=_;k_is)
  all_goals try ((with_reducible show _=_);rfl)
#print axioms PySem.Challenge.cw_trussel_k44_whole_cabinets_by_any_deeds_holds
