import PyProof.Rows.All
import Wide.All
import OpenK.AllK
import Wide.FinOn
import Lean
import PyProof.EqAt
import PyProof.EqKinds
import PyProof.TupleCall
import PySem.Challenge.RW_trussel_k41_coins_put_in_cabinets
set_option Elab.async false
set_option linter.all false
set_option maxRecDepth 100000
set_option maxHeartbeats 4000000
set_option genInjectivity false
set_option bootstrap.genMatcherCode false
set_option genSizeOf false
local macro_rules|`(def $i:declId $s:optDeclSig $v:declVal)=>`(noncomputable def $i:declId $s:optDeclSig $v:declVal)
structure PySem.W.Fast:Prop where(tw2825443232013862198 tw12320608417709287315 tw3192905966879391862 tw2282684475247744368 tw14618202887835110893 tw6118659105684987789 tw12163652285144491050 tw15206158219685345483 tw1172386351523329385 tw13736273124472374360 tw10739552300103925892 tw10576899156720856044 tw12329165307121843474 tw8844986009791947964 tw9229800614506120372 tw8960832914191359975 tw4915613617806504764 tw2164113864369707498 tw1455941635492742661 tw4293055582108392059 tw15107076167439777849 tw2677556048835721874 tw713767154494048191 tw16353947403041104912 tw6387742071415121558 tw2786767471724835981 tw13745174944267775878 tw2476712788480723828 tw18064043924453635998 tw9554108186511950737 tw4961044396888988696 tw17709142261367031884 tw10123123896844485576 tw1265888922062229859 tw11962632464953045740 tw13484801230902532451 tw15241973881184403419 tw735911795052314226 tw10513549461575715188 tw325378271937807588 tw17795750996544008753 tw8978686971065773097 tw13555102899124877967 tw13680730010885388003 tw600217271198507718 tw5382763387100738958 tw15933887248663751816 tw13132096345796206023 tw13574166884545213589 tw10777890348958737093 tw4156471997307839253 tw6459064153368165732 tw11340306531942282031 tw10757740612045044134 tw6304790090699707648 tw1696931081327589712 tw8443015828883357324 tw10860165685494975669 tw15628706045368438225 tw433923058641046917 tw17072715638661609542 tw11940837774237480686 tw13304650343447917299 tw14671298056848171591 tw15736058020563272496 tw11434662854580174309 tw10825797918390366951 tw10140932235759710014 tw8148245921051896240 tw11175984083794408898 tw3976543092658994151 tw7722884068288695041 tw6880328175472063645 tw14858216355329279298 tw10047460224202546118 tw2030132577518546651 tw2137799423230050132 tw2718455933634122213 tw2974156052367413027 tw8393844052581496261 tw5166580366356750791 tw563450189871443217 tw4674838131013513448 tw17315862875839483229 tw13549524573733624230 tw10198316955690208613 tw11858491365028645583 tw7716406622224056169 tw17572980482811402766 tw15168580569663612912 tw5993418961187566513 tw15340951633540743134 tw15619929283051295784 tw754711331497288794 tw14129682939255460485 tw8796797361866737306 tw11499154476518324359 tw9240208811247703956 tw10952855169357175483 tw14910407207530741095 tw12559084248531253465 tw10153247230487471246 tw3175971998743335483 tw11086253301743307338 tw12108460958804481833 tw8210596127490270544 tw6780608935227556971 tw15998770306156116699 tw8321597826430340410 tw10505890849648590019 tw13164718647899315549 tw9027739610640631672 tw643370220952410701 tw12442873135392787637 tw5877032658740670360 tw17213135494799353421 tw2157441762758037440 tw6028472433756492838 tw1757885205627578192 tw7812750706301715980 tw10109924646119949335 tw6941552768222975216 tw13253220555863069003 tw2965955487683314278 tw5601966435634865589 tw9945658392248354946 tw15898182015584742514 tw14388253706705298928 tw7451573938636007583 tw7124863232505120593 tw5747092680253299258 tw15164667455281297175 tw8633414560304019981 tw8646324523788114615 tw14503769058526423897 tw2040777949022542992 tw6183338849702998471 tw15275357959802470776 tw10224453651079462750 tw13570264262628282994 tw969461382149344070 tw9171077822795725414 tw1330521442607913547 tw3642362597150117876 tw10840862246798759860 tw886065968103532462 tw4839548762167086747 tw4105867255760686487 tw1763158888956140974 tw13364255930278941022 tw17165866987433565111 tw134656973913173178 tw11410724805307827132 tw11748811273937765960 tw1042337183028828226 tw8592376314263233857 tw5830731777859070450 tw9454319484094242114 tw10644282995095981218 tw4704436063382299268 tw4223295801971532988 tw1206563307106904010 tw8046093917980032481 tw6905647193551971684 tw12657261879364894503 tw8291474881020802538 tw2506464530740962160 tw5458436846453437606 tw12546519384962879029 tw13950821720843302818 tw17589472842071385825 tw5460567296944184284 tw11409790286105506605 tw3383864536159813715 tw17724015475447643816 tw11484913686865157186 tw4980680214249449046 tw6238591434724208613 tw9894178921951836927 tw13730880595776364556 tw7797041005194778033 tw17785886694842970149 tw7167360741288309211 tw3085278842477231858 tw2440421304012904637 tw15614596269603538212 tw17867567066978472758 tw8187329170188892714 tw1693806670354295950 tw11080872497245062413 tw10482317345389885698 tw15530029668816412995 tw6985162108121713056 tw14238381627551574881 tw3041814314835007659 tw17799355342393843545 tw17612806157133306571 tw416787352556538386 tw1843659243074479440 tw2896238875426812329 tw7112803464175063641 tw13889662343927389789 tw9056421661956515676 tw4538329620398494421 tw6285452365237542999 tw17014933137602039962 tw4267089925740809501 tw17973683525658374206 tw2702011879114139791 tw10568493568346605400 tw6327919502600648043 tw2629902433014479566 tw504500378920996498 tw4858443418394707973 tw17844702029062392027 tw15540790632051856577 tw8048058751282529655 tw13563294212106724218 tw9306505443834134092 tw10170821331199328405 tw10859812712689977014 tw10306135146375177151 tw4985340479292793604 tw10063338760926089769 tw7512645633743539605 tw10807947467587942371 tw12501216243482272899 tw1804937320839309523 tw7983252028149996018 tw6550391815373494852 tw2457569887287734827 tw8096359358516499350 tw13650889876147960650 tw7041198031168053832 tw11064739487689615915 tw14767128520382308253 tw9159025300100978170 tw12307314889545400311 tw12689994912842422788 tw11499010171476314595 tw49736908425417291 tw1647578831478163536 tw16041521195115492261 tw8761202816536975520 tw11990749906613298845 tw119814925608814007 tw2578229923466996436 tw11588842573360667757 tw2865283106997224085 tw175039135468015140 tw7055727460431274874 tw7771855718925942342 tw16882117497835792619 tw901865473946608787 tw11551333200506112843 tw697455878072359792 tw12507127511379015281 tw17262824281676620310 tw2712676291566150289 tw4425938691460150688 tw12964206304739836191 tw11052382854625582004 tw8302082797423302491 tw16255036533164115528 tw15822079955573440215 tw13488506619254662670 tw17277913976869753000 tw16959265452340885887 tw10283694329992896444 tw18105657862836262314 tw10871714335311860338 tw1367791754932391485 tw5699056211961882689 tw9520420440028366740 tw13238326497713230993 tw12437133501026497444 tw999530205890526012 tw6401413953221248368 tw11968983146332898365 tw4632154863092169732 tw2223965095601211430 tw8689687732148343593 tw11249685695219968654 tw5959410576023923743 tw13687961102041105492 tw10995584228900837699 tw13000108984559477753 tw12057256578482305920 tw8615183602264715724 tw3072434596825356692 tw16267557221492712011 tw12496358645819892234 tw16800038232633256146 tw15132621089492789340 tw16883406393427367905 tw12831532728862213097 tw11302342560487593821 tw3202333595789922204 tw7809732693052762094 tw6836916678925465525 tw6509726484716868450 tw757669664191776536 tw1003625437593926515 tw13032948482392402093 tw3423724436884669849 tw15027541375254238345 tw478715987874094864 tw16671827183809276500 tw14076181945891390368 tw17686164133179650469 tw12930426900303194556 tw14834921896151454385 tw17918839994655850055 tw1280132420789348113 tw15474693820076952576 tw4495749055055742154 tw9735358963882677487 tw15946695574269655826 tw17935475044642967886 tw16737920352072249712 tw17469096899058258971 tw1888959479737030928 tw5794973408054955370 tw1708319972517420234 tw9455189860293223600 tw14654066364955239268 tw7268141196255544008 tw5824595646100522244 tw9500103937704465221 tw11250970068468912053 tw13938333856332265075 tw4810184893982241112 tw592382965719362248 tw18019215690834634892 tw5611351187927070427 tw6191884293358407291 tw16051894330440512220 tw16783267537167161914 tw731556609848641806 tw15372266062920850572 tw1464092547768902403 tw11999353453118962470 tw13315360392036474379 tw8390977074869165088 tw11656580120723686099 tw96338128832269709 tw13482791005282611932 tw11214467229238390216 tw9164391479915118236 tw5879101264778966221 tw5759513436899818834 tw4168501333116582834 tw7754175160141442641 tw8546401583627462659 tw5669334979132214078 tw4317391213550266249 tw5211865508432148658 tw15426986085370673337 tw17534236491834745710 tw13200714277408321231 tw16214585084767268258 tw7253476206868238635 tw13994172434194463372 tw75893340864758954 tw893066896531985355 tw8517321616386530357 tw15703241809394554271 tw11448332685821586699 tw705977453453675834 tw4577658072455322806 tw5745734535823001095 tw10492450908821537609 tw3258438072263286026 tw9757367806993007476 tw5154236013237955976 tw11397222088432688251 tw14611500910879469741 tw1995537612861438466 tw12017780169559392246 tw8028452755075459808 tw3645552377110346691 tw10496755818248922532 tw18003550833811391292 tw8340298691494964470 tw18323528747361575869 tw1250678971805873748 tw3922402914576039028 tw13131549831700597034 tw4145752012770862460 tw16704853887305854829 tw11835658992775322577 tw5881073756877751151 tw4187397215956889819 tw12266127315606477783 tw13139048934044388796 tw11920744032449470605 tw4278111966710459622 tw8695984729264328456 tw5997513222223569863 tw2619028138962679840 tw11078860269012427208 tw524660657522048098 tw3808896828022771130 tw9429194334823312334 tw13724883144171284623 tw14883361418119260540 tw14339366728632078158 tw18408894678061027482 tw15423548767357272120 tw10937652255912170691 tw12920989344514268537 tw6654091786894768242 tw18440739121741410893 tw17611933346714650754 tw13057934040500575790 tw13471466036397386742 tw6539753790721362933 tw9107920843798071812 tw8171731000077297721 tw15946609933881447085 tw17145855048662053812 tw3184792580029149861 tw17450461618278147751 tw6031973622251127137 tw15809996708937909696 tw11438421942641411130 tw12933937620750281067 tw3506966131288414895 tw1230056551187363611 tw7136855044833662978 tw2179588168123221682 tw8872964571905648467 tw6543992227875576460 tw18105874936246046915 tw3958801484296599909 tw16445761305766584765 tw3517771852039195496 tw2448228899433805863 tw7365260041135563446 tw6240057224742361382 tw12342077349689828751 tw5500762344346951074 tw4891896305542984145 tw13652970053757545828 tw9079718592703553304 tw1774952802976007369 tw9937204518981576499 tw14392628645288348641 tw9392564308459617375 tw17487680734647253537 tw2507668581036612990 tw16040093974391749487 tw2943448944978492666 tw14195653469810141880 tw18377930225611996821 tw17965292052065975076 tw9539415471160073926 tw7747956060627170818 tw1421221068683369610 tw4372723486378255681 tw16427851956325222779 tw5637924902373902901 tw7647238267099084846 tw4085562103765320108 tw5989092838989043218 tw6815556472595315433 tw13236280054813897480 tw10403938768866474621 tw11690451344983996129 tw5878924781649099938 tw18145213216749396946 tw9501714214167868818 tw3645614993787050489 tw7362378094715329715 tw17389469935643805292 tw12604943805395804552 tw5731437212851793141 tw16556199103504855207 tw3718924378681024997 tw5335975679355673407 tw5666644850353229847 tw16215815148146633495 tw14369767925372581613 tw17642988992134306494 tw1093405510842218224 tw15693110950216434527 tw12114283848746917202 tw12988317824206144809 tw9604692962486913856 tw17777871805529240833 tw14720883480174818021 tw4576134464935747986 tw7973058564951238200 tw9551022242092477036 tw9745590749611031042 tw11053828079608045049 tw12856310925321792936 tw6773211863893598572 tw14607695123835985699 tw15409820238800345492 tw17986677287539581734 tw2754238375493746510 tw9838849516255769048 tw17467640379320928876 tw12540549061589330602 tw4889122857495352089 tw5780213166200815890 tw13990559493100197835 tw13070684447570975228 tw16134446156585131541 tw16260885419824371771 tw12977212384211226697 tw12760223236047838156 tw18397297803077096414 tw4493975785408677245 tw13679930638701946318 tw412402198424560339 tw3530690556021215666 tw17598223079720767863 tw17440638873678574121 tw5103082616741598608 tw9906330236352071331 tw3935652147390785163 tw4824226769519632609 tw8890677561563613343 tw4043257224046039909 tw13636256883965311422 tw1675866040575771823 tw13922227976922934475 tw6338773592336276559 tw4761051390868156561 tw6080144149024310086 tw9746521823041672307 tw12908283778047811099 tw8217352938911870279 tw17626835809945265892 tw8958445535904895444 tw2800204012622541435 tw17223547332972879735 tw6550239590030462827 tw1841174097765481448 tw6410401686509659383 tw14972531443092928376 tw14460615513359778767 tw331477372089401258 tw3454485573853329880 tw2402761800301381619 tw9427354413516433324 tw5162965531501623590 tw12993743107696803615 tw12729943930456654990 tw3263948535349647870 tw327270427854789011 tw12989938097986992377 tw10467171363577618317 tw14498271901049719872 tw2705428404601329974 tw14622509937239845286 tw14548159014969991169 tw7318011898881290958 tw13851130346316659181 tw3663143547888738679 tw11025850876919193247 tw15934631294207072958 tw12210603431121465232 tw3267492963145157237 tw8038652169958068373 tw12830293155705975776 tw2652604340111692485 tw11518586583138130122 tw7383279037740690229 tw9454344239745861209 tw14658195416885820417 tw10885229044386376018 tw9237920063948500011 tw1215916426283014099 tw2996606947874973042 tw897221686031335879 tw9808215807261097767 tw8842454729314682118 tw12648460724638028042 tw10311450087363545363 tw5272982183042112824 tw18287303109321810365 tw9078434525260933082 tw4767540861722015740 tw10091441359947730600 tw998487134805484432 tw3785278174653964489 tw8227583374712189585 tw12539018315185043602 tw12842537723705651991 tw17345593164575976769 tw15457317895401561123 tw12301882276159315325 tw12613340285564223137 tw5802600467630881049 tw5517377076700240645 tw16910571847374470142 tw16907654488491268827 tw2242363708257107319 tw5289767925359339869 tw13638469552086168596 tw9157858416014566932 tw1691407459446916026 tw8210132366011153416 tw17220701614753690169 tw15003590749087475598 tw12784807436021977099 tw11489834957981077287 tw15756952451331567155 tw13997647179521950202 tw14011025832079432118 tw2406815270074549482 tw699831008344632576 tw12831224106375265975 tw16098853479231639756 tw16908018787055541255 tw14586264914838266215 tw1546286439833565371 tw11536256502476198364 tw8865332742116959612 tw9442691534251367107 tw17809667602989812550 tw14348912346149398202 tw17427705817430607311 tw7711244033044515459 tw7785074120441408331 tw7799902208453990721 tw16045142490655898541 tw18170553459037356434 tw7655417479816637101 tw3310785342489952204 tw15745465017644307238 tw1445757529362491513 tw7531559033953293399 tw9884765815134871947 tw43966983761558106 tw9685333543985879268 tw13807023426425679375 tw12840798534963487793 tw687045675869304082 tw1283589547444355502 tw1557301928154649780 tw11615055938494519650 tw18070140527919930179 tw6934282318581318408 tw3208725520645477263 tw6229371724315089872 tw8561462454274111404 tw6372217441274862818 tw11680332919135572543 tw16543667182094985961 tw14284483302382218595 tw17150499368699447542 tw12297857407919261894 tw11664715651660308599 tw13831878367446602366 tw9684506183810686016 tw10586676192254240513 tw10094480025878661651 tw13254788088180514399 tw7975591353817407609 tw12218392849617778738 tw7836927821188061806 tw17491388997270057396 tw8143325447375183301 tw7223943341579405062 tw12302449225149123175 tw11173134926330903192 tw6955372317237932283 tw887556654848621409 tw13018830015160133890 tw3582999438967727950 tw3041954667171847381 tw2922377103996604739 tw4906436981609021562 tw7097977992561450541 tw9163431554921032583 tw299975675282040974 tw9659109898664942005 tw5553038619320389508 tw11579593494428445210 tw2789165555632785881 tw15231846401459706063 tw3005653901405455779 tw9790016033219675795 tw12463184327912199364 tw2510126199817276390 tw1630000291437329242 tw14931206684547564402 tw17674017213362533778 tw12433438775333633606 tw1748934695694083451 tw17177342267155209783 tw2760038709866957215 tw3284530704241539550 tw16434768483061709621 tw1822399497254908610 tw14636855016926153418 tw18034766704354695818 tw472649866861910475 tw17762185110478537238 tw3109075867860050098 tw9786865927514277107 tw8075637138338557671 tw14902694058902551302 tw7254802269126045282 tw3563408778746850309 tw7128435467461073565 tw8957258502642962316 tw10311275069050035788 tw7723989115917019904 tw1517741693434081315 tw17157788937798123245 tw8044159292284207949 tw10881750438213666843 tw13517209276023251457 tw16196005714564171887 tw8304620330600815811 tw16469157801194342549 tw9278517682111912914 tw8345268950255934386 tw9224784203737006419 tw16037634232397389373 tw391171931824040850 tw13838732791938895212 tw12069021096161473648 tw459572083397373749 tw1919555682635852818 tw5164797592347716428 tw12237432807341902910 tw8163736625298852584 tw7334141014002758421 tw3663149033217594943 tw3701295089666816830 tw12328574208397966410 tw2066698822224828364 tw2176780328442368519 tw4645402540671149500 tw16418728075873022214 tw13429314130031940390 tw15136041924415632402 tw16129358223700684719 tw809474316904067333 tw2781646749716657902 tw11804856857266805823 tw15384203297605348359 tw3855760257390639341 tw10878539377153840341 tw5162790593361666580 tw3755272804558005733 tw15454909662903453323 tw11242211204091030172 tw921681766838942564 tw4017900063439886604 tw1106793332532465451 tw4062173060177179676 tw15435961428883983301 tw11655259738155544200 tw13327090569151319750 tw13347020009098886566 tw3165162998112257436 tw7878910848728003733 tw831759620048168615 tw38809761394905837 tw10272824143179097899 tw16802882661817844897 tw17966849142623297846 tw9173425981028658350 tw2444470418777559468 tw10119557217238835287 tw17231718981263191738 tw8323207538847260613 tw11847731553637376103 tw1996318676280042943 tw7713253567266513849 tw2849957784386354428 tw8051050235932179080 tw3210344065507913222 tw18055874214860200995 tw18131340315314488769 tw9650939502653467329 tw11485720371322840329 tw17966668020756068640 tw13317482634791603071 tw16950605763184491411 tw11997267507777520173 tw13949527747686873820 tw6697015603540200008 tw2898221346612665634 tw5954396898446911282 tw16084081472369399784 tw16401638707042192508 tw10089418179902702834 tw11869790069348947413 tw9653607983250115791 tw1665353513362164761 tw3283818112316652976 tw16767075366400789344 tw17600332460809878181 tw12691058451748917734 tw5038814946263397680 tw12632022509599291451 tw6118807248307927097 tw10449099483482019284 tw8275096087039481392 tw5064642763379578404 tw11855097460256093855 tw4898830163719305247 tw15241345385772415729 tw15324505395361574139 tw5313219867906457077 tw17775888910352610440 tw16829063637767019405 tw14017107287139534573 tw89444198502047909 tw7546606533455309639 tw6375430633740718946 tw11323612002550454552 tw16763020288764454930 tw8185822153011083067 tw5936147155472744422 tw15136801128243463200 tw5142015919041273639 tw608293432506587689 tw2779638398029097816 tw2290979054234546110 tw6566290397965594391 tw16070491696887397046 tw10579092771883036989 tw5586295630964306 tw5805600787397451521 tw8273451280237814176 tw14950882726865567511 tw690428037540224838 tw13531726555347423749 tw13864913032121780004 tw9823136682166484135 tw8044825528339342675 tw14750883525359474327 tw3845226348103291587 tw2989392134962038204 tw4320568669180093259 tw7191189573504255212 tw1208544479657603986 tw5351293644924361348 tw1030781241681450588 tw12282644339429081426 tw1997978865464614055 tw3627143322820629795 tw14465329513201617404 tw17273548875164261399 tw15593336122340978321 tw14226525783683284568 tw5159468417918051659 tw11700770765509785676 tw11708256406499374952 tw6379191201443301158 tw14557331777540207029 tw11030880095358229946 tw1018376505413790356 tw12883638330502331047 tw8356702565218190237 tw15118526592801264953 tw9927054827935779048 tw1534972058171720554 tw4459016437444595405 tw933100985817508865 tw5570170000337102570 tw4842801830851277721 tw12966460217129623619 tw9650022046417852225 tw11096285729267461102 tw4079378358479061149 tw12815744265168698289 tw14814326273994321020 tw9116852242881051019 tw13316619713070764840 tw6786413466672599845 tw1238389098056876519 tw15122727468726644176:True)
namespace _X
local macro_rules|`(tactic|omega)=>`(tactic|lia)
def AA:=@PySem.evalArgs_none
def AB:=@PySem.W.hideAll_get
def AD:=@List.mergeSort_perm
def AE:=@List.map_congr_left
def AF:=@List.getElem?_range
def Az:=@PySem.wpAny_binaryOp_repeat_ref
def GU:=@PySem.wpAny_newList
def GV:=@PySem.W.of_hideAll
def GW:=@PySem.W.kitx_tuple
def GX:=@Array.append_assoc
def YA:=@List.getElem_drop
def YB:=@List.foldl_append
def YC:=@List.any_eq_false
def YD:=@Array.toList_push
def Yu:=@PySem.putSet_of
def Yv:=@PySem.list_append
def Yw:=@PySem.W.kitx_list
def Yx:=@PySem.W.kitx_dict
def Yy:=@Nat.le_succ_of_le
def Yz:=@List.length_range
def ZA:=@List.ext_getElem
def Zr:=@PySem.wpAny_Call_method_late
def Zs:=@PySem.seqIndex_neg
def Zt:=@PySem.concat_meets
def Zu:=@PySem.codeAny_loop
def Zv:=@PySem.seqSlot_of
def Zw:=@PySem.IsL.update
def Zx:=@Nat.succ_lt_succ
def Zy:=@List.perm_middle
def Zz:=@List.isEmpty_iff
def aB:=@Option.some.inj
def aC:=@List.mem_map
def aD:=@if_neg
def aE:=@Nat.ne_of_lt
def aF:=@List.getElem?_map
def aG:=@List.getElem?_append_left
def aH:=@PySem.mem_of_lookup
def aI:=@Nat.le_trans
def aK:=@if_pos
def aN:=@List.getElem?_set_ne
def aQ:=@of_decide_eq_true
def aR:=@decide_eq_false
def aT:=@decide_eq_true
def aU:=@List.mem_append_right
def aV:=@PySem.wpAny_mono
def aW:=@PySem.Heap.get?_update_self
def aX:=@Nat.lt_irrefl
def aY:=@List.getElem?_set_self
def aZ:=@Bool.and_eq_true
def aa:=@PySem.wpAny_bind
def ae:=@Option.map_eq_some_iff
def ag:=@Option.bind_eq_some_iff
def ah:=@PySem.Heap.get?_push_of_some
def ai:=@PySem.wpAny_pure
def aj:=@Nat.le_refl
def ak:=@Nat.lt_of_lt_of_le
def aq:=@PySem.Heap.lt_size
def au:=@PySem.Heap.get?_push_size
def av:=@List.size_toArray
def aw:=@List.mem_cons
def ax:=@List.getElem?_eq_some_iff
def ay:=@List.length_map
def az:=@List.getElem?_eq_getElem
def bB:=@PyProof.Rows.callWith_type1
def bD:=@PySem.wpAny_call_entry
def bG:=@PyProof.Rows.slot_tuple_getitem
def bH:=@List.mem_of_getElem?
def bI:=@List.mem_cons_of_mem
def bJ:=@PySem.W.mg_of
def bK:=@PySem.W.kia_one
def bO:=@List.replicate_succ
def bP:=@Array.length_toList
def bQ:=@Bool.eq_false_iff
def bR:=@PySem.Heap.get?_update_other
def bU:=@PySem.Heap.SameBut.update
def bW:=@Nat.lt_trans
def bX:=@Nat.zero_le
def bY:=@Bool.eq_iff_iff
def bZ:=@PySem.wpAny_truthy_bool
def ba:=@List.map_cons
def bg:=@Ne.symm
def bj:=@PySem.wpAny_holding
def bo:=@PySem.Obj.data_mapFields
def bp:=@Nat.ne_of_gt
def bt:=@List.length_append
def bu:=@Bool.false_ne_true
def bz:=@PySem.wpAny_newObj_type
def cB:=@List.map_map
def cC:=@List.pairwise_cons
def cD:=@List.getElem?_append_right
def cH:=@PySem.wpAny_standAt
def cJ:=@List.getElem?_eq_none_iff
def cK:=@PySem.call_meets
def cL:=@Nat.le_of_lt
def cM:=@List.mem_append_left
def cN:=@List.flatten_cons
def cO:=@Int.toNat_natCast
def cP:=@PySem.Heap.size_push
def cQ:=@PySem.Obj.isFreed_of_fields
def cS:=@PySem.codeAny_builtin
def cT:=@beq_eq_false_iff_ne
def cU:=@PySem.wpAny_typeOf
def cV:=@List.length_cons
def cW:=@List.getElem?_replicate
def cX:=@List.filter_cons
def cb:=@PySem.wpAny_setState_of
def cc:=@List.lookup_cons
def cg:=@List.length_take
def cv:=@PySem.wpAny_Call_Name_kw
def cy:=@List.mem_filter
def cz:=@PySem.Around.under_plainId
def dA:=@Nat.lt_succ_self
def dB:=@List.any_eq_true
def dC:=@List.all_eq_true
def dG:=@List.drop_eq_getElem_cons
def dH:=@PyProof.Rows.F.plain_set_update_loop
def dI:=@List.filterMap_cons
def dN:=@PySem.wpAny_of_eq
def dO:=@PySem.intKind_is
def dP:=@Option.isSome_iff_exists
def dS:=@List.mem_append
def dU:=@List.map_append
def dW:=@decide_eq_true_iff
def dX:=@List.mem_singleton
def dZ:=@PySem.F.plainAttrs_list
def da:=@PySem.W.cellsFrom_some
def dc:=@List.filter_append
def dg:=@PySem.wpAny_setField
def dk:=@Array.getElem_eq_getD
def dn:=@List.pairwise_map
def dt:=@PySem.wpAny_passesOwn
def du:=@congrArg
def dw:=@List.mem_iff_getElem
def dz:=@PySem.builtinLookup_eq_fast
def eF:=@PySem.wpAny_comprehension_free
def eG:=@PyProof.Rows.boot_list
def eI:=@List.append_assoc
def eM:=@PySem.wpAny_rule
def eO:=@PySem.wpAny_callSpecial?_slot
def eP:=@List.getElem?_eq_none
def eQ:=@Array.getElem?_toList
def eU:=@List.getElem_mem
def eZ:=@List.any_cons
def fB:=@PySem.wpAny_isInstance
def fF:=@PySem.plainId_quiet
def fH:=@List.take_succ
def fI:=@List.mem_cons_self
def fJ:=@Int.emod_lt_of_pos
def fK:=@PySem.Calls.evalArgs_plain
def fP:=@PySem.typeLookup_type
def fQ:=@List.pairwise_iff_getElem
def fR:=@Array.getElem?_eq_getElem
def fW:=@Option.isSome_map
def fX:=@List.reverse_cons
def fY:=@List.nodup_append
def fZ:=@PySem.codeAny_mono
def fb:=@PySem.isSubtype_type
def fc:=@Sum.inl.inj
def fe:=@Nat.le_succ
def ff:=@PySem.Calls.callWith_builtin
def fj:=@List.nodup_cons
def fk:=@List.append_nil
def fm:=@Bool.or_eq_true
def gJ:=@PySem.F.slot_tuple_add
def gK:=@PySem.Calls.call_function_entry
def gP:=@PySem.wpAny_pyIter_list
def gQ:=@List.find?_cons
def gR:=@Int.emod_nonneg
def gS:=@PySem.F.plain_list_iadd
def gX:=@PyProof.Rows.boot_set
def gY:=@Nat.eq_of_beq_eq_true
def gZ:=@List.take_append_drop
def gb:=@PySem.F.args_tuple_add_2
def gc:=@PyProof.Rows.boot_sorted
def gf:=@List.all_cons
def gn:=@PyProof.Rows.size_push'
def gx:=@PySem.tupleKind_room_in1
def gy:=@PySem.F.entry_tuple_add
def gz:=@List.length_drop
def hJ:=@List.length_singleton
def hU:=@List.length_replicate
def hV:=@List.length_filter_le
def iH:=@PySem.W.plainGet_of
def iJ:=@PySem.W.callWith_K0
def iK:=@PyProof.Rows.F.entry_set_update_loop
def iL:=@List.getElem_of_mem
def iM:=@List.filter_sublist
def iN:=@List.filter_eq_self
def ir:=@PySem.noFill_tuple_add
def jB:=@List.findIdx?_eq_some_iff_getElem
def jE:=@PySem.wpAny_field
def jF:=@PySem.sizeLine_eq
def jG:=@Nat.lt_trichotomy
def jH:=@Nat.lt_succ_of_lt
def jI:=@List.getElem_take
def jT:=@List.eraseIdx_eq_take_drop_succ
def jU:=@List.eraseIdxIfInBounds_toArray
def ja:=@PySem.wpAny_updateSeq
def jb:=@PySem.wpAny_execs_nil
def jc:=@PySem.F.slot_dict_itemiterator_iter
def jd:=@PySem.F.slot_int_rmul
def jg:=@beq_iff_eq
def jh:=@PySem.W.callWith_K
def ji:=@Nat.not_lt
def jj:=@Nat.lt_of_le_of_lt
def jk:=@List.mem_filterMap
def kJ:=@PySem.seq_tuple_add
def kK:=@PySem.Paired.length
def kL:=@List.eq_nil_of_length_eq_zero
def kY:=@PySem.typeIs_int
def kZ:=@List.of_mem_zip
def kh:=@Nat.le_of_not_lt
def ki:=@List.take_length
def lg:=@PySem.F.args_tuple_add_2
def mE:=@PySem.wpAny_pyIter_slot
def mF:=@PySem.Value.isInt_shape
def mG:=@Option.ne_none_iff_exists'
def mH:=@PySem.Obj.cls_mapFields
def mI:=@List.length_eraseIdx_of_lt
def mJ:=@List.Perm.refl
def mK:=@PySem.F.entry_tuple_add
def mL:=@Bool.false_and
def oj:=@PySem.wpAny_askSetting
def om:=@PySem.F.slot_tuple_mul
def oo:=@PySem.F.slot_tuple_add
def pJ:=@PySem.F.slot_dict_items
def pK:=@PySem.F.plainAttrs_dict
def pL:=@PyProof.Rows.boot_tuple
def pM:=@List.pairwise_mergeSort
def qD:=@List.map_nil
def qE:=@Bool.not_not
def qG:=@Array.getElem?_eq_none
def qw:=@PySem.codeAny_of_tree
def qx:=@Nat.mul_comm
def qy:=@List.set_set
def qz:=@List.pairwise_lt_range
def ud:=@PyProof.Rows.assignInOrder_cons
def ue:=@PySem.W.methodCall_KW
def uf:=@PySem.F.type_list_pop
def ug:=@PySem.F.slot_list_pop
def uh:=@PySem.F.slot_dict_pop
def ui:=@PyProof.Rows.boot_int
def uj:=@List.Pairwise.sublist
def vU:=@PySem.wpAny_runValue
def vV:=@PySem.entryFor_alias
def vW:=@Prod.mk.inj
def vX:=@List.pairwise_append
def vY:=@List.getElem_toArray
def vZ:=@List.Pairwise.filter
def wa:=@PySem.Calls.Name_function_global
namespace L2
open PySem PySem.Spec PyProof.Rows
variable{xs vs:List V}{us:List Value}{H H':Hp}{a b f C dx:Addr}{o:HO}{u:Value}{P:Program}{w:World}{h h' base:Heap}{α:Type}{x m:Str}{e c tg:Expr}{X:Cx}{pins:List (Addr×Obj)}{Z:St}{s:Shared}{t' i j k:Nat}{ch fp:List Addr}{N ps:List Str}{M:Model}{A:Around}{E Q:Value->Shared->Prop}{v:V}{t:TA}{ta tb te:TE}{pos pos' p:Pos}{K:PySem.W.Frag}{es:List Expr}{op:CmpOp}{body:List Stmt}{r:R2}{fd:FuncData}{CX:lY}{sp:Sp}
noncomputable abbrev Key:=Sum Int Str
def T1:Key->Value->Bool
 |.inl k,v=>Value.isInt k v
 |.inr x,v=>Value.isStrOf x v
def OV(w:World):Key->Int
 |.inl k=>hashInt k
 |.inr x=>hashStr w x
theorem k6:∀{k:Key} {v:Value},T1 k v=true->(∃i t,k=Sum.inl i/\v=Value.int i t)\/(∃x t,k=Sum.inr x/\v=Value.str x t)
 |.inl i,v,h=>by
  obtain⟨t,e⟩:=mF (k:=i) (v:=v) h;exact .inl ⟨i,t,rfl,e⟩
 |.inr x,v,h=>by
  obtain⟨t,e⟩:=Value.isStrOf_shape (x:=x) (v:=v) h;exact .inr ⟨x,t,rfl,e⟩
theorem Ub(i:Int)(t:Tok):T1 (.inl i) (.int i t)=true:=by simp[T1,Value.isInt]
theorem Uc(x:Str)(t:Tok):T1 (.inr x) (.str x t)=true:=by simp[T1,Value.isStrOf]
theorem Kd(a b:Int):decide ((Sum.inl a:Key)=Sum.inl b)=(a==b):=by
 by_cases e:a=b
 ·subst e;simp
 ·have h:¬(Sum.inl a:Key)=Sum.inl b:=λq=>e (fc q);rw[aR h];exact(cT.mpr e).symm
theorem Kg(a b:Str):decide ((Sum.inr a:Key)=Sum.inr b)=decide (a=b):=by
 by_cases e:a=b
 ·subst e;simp
 ·have h:¬(Sum.inr a:Key)=Sum.inr b:=λq=>e (Sum.inr.inj q);rw[aR h,aR e]
theorem Ke(a:Int)(b:Str):decide ((Sum.inl a:Key)=Sum.inr b)=false:=aR (λq=>nomatch q)
theorem Kf(a:Str)(b:Int):decide ((Sum.inr a:Key)=Sum.inl b)=false:=aR (λq=>nomatch q)
def d7(prog:Program)(w:World):PySem.KeyKind prog w Key where
 is:=T1
 hash:=OV w
 inj:=λv a b ha hb=>by
  rcases k6 ha with⟨i,t,rfl,rfl⟩|⟨x,t,rfl,rfl⟩
  ·rcases k6 hb with⟨j,u,rfl,e⟩|⟨y,u,rfl,e⟩
   ·injection e with e1 _;rw[e1]
   ·exact nomatch e
  ·rcases k6 hb with⟨j,u,rfl,e⟩|⟨y,u,rfl,e⟩
   ·exact nomatch e
   ·injection e with e1 _;rw[e1]
 byValue:=λk v h=>by
  rcases k6 h with⟨i,t,rfl,rfl⟩|⟨x,t,rfl,rfl⟩<;>rfl
 pyHash:=λhv h=>by
  rcases k6 hv with⟨i,t,rfl,rfl⟩|⟨x,t,rfl,rfl⟩
  ·exact wpAny_pyHash_int h
  ·exact wpAny_pyHash_str h
 eqBool:=λhu hv h=>by
  rcases k6 hu with⟨i,t,rfl,rfl⟩|⟨x,t,rfl,rfl⟩
  ·rcases k6 hv with⟨j,u,rfl,rfl⟩|⟨y,u,rfl,rfl⟩
   ·rw[Kd] at h;exact wpAny_eqBool_int h
   ·rw[Ke] at h;exact SeqAt.EqAt.int_str i t y u _ _ _ _ h
  ·rcases k6 hv with⟨j,u,rfl,rfl⟩|⟨y,u,rfl,rfl⟩
   ·rw[Kf] at h;exact SeqAt.EqAt.str_int x t j u _ _ _ _ h
   ·rw[Kg] at h;exact wpAny_eqBool_str h
 «strs»:=λk x t v h=>by
  rcases k6 h with⟨i,u,rfl,e⟩|⟨y,u,rfl,e⟩
  ·exact nomatch e
  ·injection e with e1 _;subst e1;cases v<;>rfl
theorem EE(prog:Program)(w:World)(k:Key)(v:Value):(d7 prog w).is k v=T1 k v:=rfl
theorem Wc(prog:Program)(w:World)(i:Int)(t:Tok):(d7 prog w).is (.inl i) (.int i t)=true:=Ub i t
theorem We(prog:Program)(w:World)(x:Str)(t:Tok):(d7 prog w).is (.inr x) (.str x t)=true:=Uc x t
set_option genInjectivity true in
inductive V where
 |bc|bl (b:Bool)|int (i:Int)|str (x:Str)|kd (b:Array UInt8)|oY (b:UInt64)|ref (a:Addr)|ty (n:String)
 deriving DecidableEq
def RelV:V->Value->Prop
 |.bc,u=>u=Value.none
 |.bl b,u=>u=Value.bool b
 |.int i,u=>∃t,u=Value.int i t
 |.str x,u=>∃t,u=Value.str x t
 |.kd b,u=>∃t,u=Value.bytes b t
 |.oY b,u=>∃t,u=Value.float b t
 |.ref a,u=>u=Value.ref a
 |.ty n,u=>u=Value.type n
noncomputable abbrev Vals:List V->List Value->Prop:=Paired RelV
theorem Vals.length{xs:List V}{us:List Value}(r:Vals xs us):xs.length=us.length:=kK r
theorem Vals.get:∀{xs:List V} {us:List Value} {i:Nat} {x:V},Vals xs us->xs[i]?=some x->∃u,us[i]?=some u/\RelV x u
 |_,_,_,_,.nil,e=>by simp at e
 |_,_,0,_,.cons r _,e=>by simp at e;subst e;exact⟨_,rfl,r⟩
 |_,_,i+1,x,.cons _ t,e=>by
  obtain⟨u,h1,h2⟩:=Vals.get (i:=i) (x:=x) t (by simpa using e);exact⟨u,by simpa using h1,h2⟩
theorem Vals.set{x:V}{u:Value}(r:RelV x u):∀{xs:List V} {us:List Value} (i:Nat),Vals xs us->Vals (xs.set i x) (us.set i u)
 |_,_,_,.nil=>.nil
 |_,_,0,.cons _ t=>.cons r t
 |_,_,i+1,.cons q t=>.cons q (Vals.set r i t)
theorem Vals.append{ys:List V}{ws:List Value}(h:Vals xs us)(s:Vals ys ws):Vals (xs++ys) (us++ws):=by
 induction h with
 |nil=>exact s
 |cons r t ih=>exact .cons r ih
theorem Vals.take:∀{xs:List V} {us:List Value} (n:Nat),Vals xs us->Vals (xs.take n) (us.take n)
 |_,_,0,_=>.nil
 |_,_,_+1,.nil=>.nil
 |_,_,n+1,.cons r t=>.cons r (Vals.take n t)
theorem Vals.drop:∀{xs:List V} {us:List Value} (n:Nat),Vals xs us->Vals (xs.drop n) (us.drop n)
 |_,_,0,r=>r
 |_,_,_+1,.nil=>.nil
 |_,_,n+1,.cons _ t=>Vals.drop n t
def v7:Option V->Option Value->Prop
 |some v,some u=>RelV v u
 |none,none=>True
 |_,_=>False
def KV{κ:Type}:List (κ×V)->List (κ×Value)->Prop:=Paired λ(p:κ×V) (q:κ×Value)=>p.1=q.1/\RelV p.2 q.2
def kV:Key->V
 |.inl i=>.int i
 |.inr x=>.str x
inductive HO where
 |lst (xs:List V)
 |tup (xs:List V)
 |dK (kvs:List (Key×V))|dT (kvs:List (List Key×V))
 |set (S:Int->Bool) (n:Nat)
 |ins (C dx:Addr) (fs:List (Str×V))
 |own (x:Addr)
 |xd (fs:List (Str×V))
 |met (f x:Addr)
 |kO (lo hi:Int)
 |iW (o:Obj) (u:HO)
 |ny (ps:Array Value)
 |ext (φ:Heap->Prop)
noncomputable abbrev Hp:=Addr->Option HO
def upd(H:Hp)(a:Addr)(o:HO):Hp:=λb=>if b=a then some o else H b
theorem f9:upd H a o a=some o:=by unfold upd;rw[aK rfl]
theorem a7(h:b≠a):upd H a o b=H b:=by unfold upd;rw[aD h]
theorem Ru{u:HO}(h:H a=some o)(h':H b=some u)(d:o≠u):a≠b:=by
 intro e;subst e;rw[h] at h';exact d (aB h')
theorem d4(h:H a=some o)(h':H b=none):a≠b:=by
 intro e;subst e;rw[h] at h';cases h'
def F8(h:Heap)(a:Addr)(items:Array Value):Prop:=∃o,h.get? a=some o/\o.cls=.type "tuple"/\(∃n,o.data=.seq items n)/\o.dict=none
theorem F8.tup{h:Heap}{a:Addr}{items:Array Value}(x:F8 h a items):IsTup h a items:=let ⟨o,e,c,d,_⟩:=x;⟨o,e,c,d⟩
theorem F8.new(h:Heap)(items:Array Value):F8 (h.push { cls:=.type "tuple",data:=.seq items }) h.objs.size items:=⟨_,au _ rfl,rfl,⟨_,rfl⟩,rfl⟩
section
variable(P:Program)(w:World)
def j4(H:Hp)(h:Heap)(a:Addr):HO->Prop
 |.lst xs=>xs.length<=sizeLine/\∃(aL:List Value) (n:Nat),Vals xs aL/\h.get? a=some { cls:=.type "list",data:=.seq aL.toArray n }
 |.tup xs=>xs.length<=sizeLine/\∃aL:List Value,Vals xs aL/\F8 h a aL.toArray
 |.dK kvs=>kvs.length<=sizeLine/\(a==sysModules)=false/\∃vs,KV kvs vs/\h.DictOf (d7 P w) a vs
 |.dT kvs=>kvs.length<=sizeLine/\(a==sysModules)=false/\∃xs:List (List Key×Addr×Value),
   Paired (λ(p:List Key×V) (q:List Key×Addr×Value)=>p.1=q.1/\H q.2.1=some (.tup (p.1.map kV))/\RelV p.2 q.2.2) kvs xs /\
   ∃o es ep,h.get? a=some o/\o.ExactDict/\o.data=.dict es ep/\es.toList=xs.map (entryOfKey (tupleKind (d7 P w)))/\(xs.map (·.1)).Nodup
 |.set S n=>h.SetOf (intKind P w) a S n
 |.ins C dx fs=>H dx=some (.own a)/\fs.length<=1000/\dx≠a/\h.get? a=some (PySem.W.instObj C dx) /\
   ∃mA,h.Ns1 dx mA/\(∀f,v7 (fs.lookup f) (mA f))/\PySem.Within mA (fs.map (·.1))
 |.own _=>∃o,h.get? a=some o
 |.xd fs=>∃mA,h.Ns1 a mA/\∀f,v7 (fs.lookup f) (mA f)
 |.kO lo hi=>∃t u v,h.get? a=some { cls:=.type "range",data:=.fields #[.int lo t,.int hi u,.int 1 v] }
 |.iW o u=>h.get? a=some o/\j4 H h a u
 |.ny ps=>h.get? a=some { cls:=.none,data:=.fields ps }
 |.met f x=>h.get? a=some (PySem.W.methodObj (.ref f) (.ref x))
 |.ext φ=>φ h/\(∃o,h.get? a=some o)/\∀h1 h2:Heap,φ h1->(∀o,h1.get? a=some o->h2.get? a=some o)->φ h2
def fA(H:Hp)(h:Heap):Prop:=∀a o,H a=some o->j4 P w H h a o
end
theorem j4.lt(x:j4 P w H h a o):a<h.objs.size:=by
 cases o with
 |lst xs=>obtain⟨_,_,_,_,e⟩:=x;exact aq e
 |tup xs=>obtain⟨_,_,_,p⟩:=x;exact p.tup.lt
 |dK kvs=>obtain⟨_,_,_,_,o,_,_,e,_⟩:=x;exact aq e
 |dT kvs=>obtain⟨_,_,_,_,o,_,_,e,_⟩:=x;exact aq e
 |set S n=>obtain⟨o,_,_,_,e,_⟩:=x;exact aq e
 |ins C dx fs=>obtain⟨_,_,_,e,_⟩:=x;exact aq e
 |own y=>obtain⟨_,e⟩:=x;exact aq e
 |xd fs=>obtain⟨_,⟨_,_,_,e,_⟩,_⟩:=x;exact aq e
 |kO lo hi=>obtain⟨_,_,_,e⟩:=x;exact aq e
 |iW ob u=>obtain⟨e,_⟩:=x;exact aq e
 |ny ps=>exact aq (show h.get? a=some _ from x)
 |met f y=>exact aq (show h.get? a=some _ from x)
 |ext φ=>obtain⟨_,⟨_,e⟩,_⟩:=x;exact aq e
theorem Paired.Ck{β:Type}{F G:α->β->Prop}{qY:List α}{qW:List β}(h:Paired F qY qW)(f:∀a b,F a b->G a b):Paired G qY qW:=by
 induction h with
 |nil=>exact .nil
 |cons r t ih=>exact .cons (f _ _ r) ih
theorem j4.P2(x:j4 P w H h a o)(k:∀b u,(b=a\/H b=some (.own a))->h.get? b=some u->h'.get? b=some u)(ho:∀b,H b=some (.own a)->H' b=some (.own a))(ht:∀b xs,H b=some (.tup xs)->H' b=some (.tup xs)):j4 P w H' h' a o:=by
 induction o with
 |lst xs=>obtain⟨z,aL,n,r,e⟩:=x;exact⟨z,aL,n,r,k _ _ (.inl rfl) e⟩
 |tup xs=>obtain⟨z,aL,r,ob,e,c⟩:=x;exact⟨z,aL,r,ob,k _ _ (.inl rfl) e,c⟩
 |dK kvs=>obtain⟨z,y,vs,r,ob,es,ep,e,c⟩:=x;exact⟨z,y,vs,r,ob,es,ep,k _ _ (.inl rfl) e,c⟩
 |dT kvs =>
  obtain⟨z,y,xs,r,ob,es,ep,e,c⟩:=x;exact⟨z,y,xs,Paired.Ck r λp q z=>⟨z.1,ht _ _ z.2.1,z.2.2⟩,ob,es,ep,k _ _ (.inl rfl) e,c⟩
 |set S n=>obtain⟨ob,es,ep,t,e,c⟩:=x;exact⟨ob,es,ep,t,k _ _ (.inl rfl) e,c⟩
 |ins C dx fs =>
  obtain⟨d,z,ne,e,mA,⟨od,es,ep,e2,c⟩,r⟩:=x;exact⟨ho _ d,z,ne,k _ _ (.inl rfl) e,mA,⟨od,es,ep,k _ _ (.inr d) e2,c⟩,r⟩
 |own y=>obtain⟨ob,e⟩:=x;exact⟨ob,k _ _ (.inl rfl) e⟩
 |xd fs=>obtain⟨mA,⟨od,es,ep,e,c⟩,r⟩:=x;exact⟨mA,⟨od,es,ep,k _ _ (.inl rfl) e,c⟩,r⟩
 |kO lo hi=>obtain⟨t,u,v,e⟩:=x;exact⟨t,u,v,k _ _ (.inl rfl) e⟩
 |iW ob u ih=>obtain⟨e,q⟩:=x;exact⟨k _ _ (.inl rfl) e,ih q⟩
 |ny ps =>
  have e:h.get? a=some { cls:=.none,data:=.fields ps }:=x;show h'.get? a=some { cls:=.none,data:=.fields ps };exact k a _ (.inl rfl) e
 |met f y =>
  have e:h.get? a=some (PySem.W.methodObj (.ref f) (.ref y)):=x;show h'.get? a=some (PySem.W.methodObj (.ref f) (.ref y));exact k a _ (.inl rfl) e
 |ext φ=>obtain⟨p,⟨o,e⟩,st⟩:=x;exact⟨st _ _ p λo q=>k _ _ (.inl rfl) q,⟨o,k _ _ (.inl rfl) e⟩,st⟩
theorem fA.lt(x:fA P w H h)(e:H a=some o):a<h.objs.size:=(x a o e).lt
theorem fA.fresh(x:fA P w H h)(e:h.objs.size<=a):H a=none:=by
 cases q:H a with
 |none=>rfl
 |some u=>exact absurd (ak (x.lt q) e) (aX _)
theorem fA.kept(x:fA P w H h)(k:∀b u,h.get? b=some u->h'.get? b=some u):fA P w H h':=λa o e =>
 (x a o e).P2 (λb u _ q=>k b u q) (λ_ q=>q) λ_ _ q=>q
theorem fA.laid(x:fA P w H h)(k:∀b u,h.get? b=some u->h'.get? b=some u)(hp:h.objs.size<=a)(new:j4 P w (upd H a o) h' a o):fA P w (upd H a o) h':=λb u e=>by
 have hn:=x.fresh hp;by_cases hb:b=a
 ·subst hb;rw[f9] at e;cases e;exact new
 ·rw[a7 hb] at e;exact(x b u e).P2 (λc v _ q=>k c v q) (λc q=>by rw[a7 (d4 q hn)];exact q) λc xs q=>by rw[a7 (d4 q hn)];exact q
def Rd(H:Hp)(a:Addr)(u:HO):Prop:=H a=some u\/∃o,H a=some (.iW o u)
theorem Rd.ok{u:HO}(r:Rd H a u)(x:fA P w H h):j4 P w H h a u:=by
 rcases r with r|⟨o,r⟩
 ·exact x a u r
 ·obtain⟨_,q⟩:=x a _ r;exact q
def tY:Option HO->Prop
 |some (.lst _)=>True
 |some (.dK _)=>True
 |some (.dT _)=>True
 |some (.set _ _)=>True
 |some (.ins _ _ _)=>True
 |some (.ext _)=>True
 |_=>False
section
variable{x e:Addr}{o':HO}
theorem fA.write(ok:fA P w H h)(mu:tY (H x))(he:e=x\/H e=some (.own x))(k:∀b u,b≠e->h.get? b=some u->h'.get? b=some u)(nJ:∃u,h'.get? e=some u)(new:j4 P w (upd H x o') h' x o'):fA P w (upd H x o') h':=λb u q=>by
 have qR:∀c y,H c=some (.own y)->c≠x:=λc y r z=>by subst z;rw[r] at mu;exact mu
 have wF:∀c xs,H c=some (.tup xs)->c≠x:=λc xs r z=>by subst z;rw[r] at mu;exact mu
 by_cases hb:b=x
 ·subst hb;rw[f9] at q;cases q;exact new
 ·rw[a7 hb] at q;by_cases oQ:b=e
  ·have q':H b=some (.own x):=by
    rcases he with z|z
    ·exact absurd (oQ.trans z) hb
    ·rw[oQ];exact z
   rw[q] at q';cases q';obtain⟨v,hv⟩:=nJ;exact⟨v,by rw[oQ];exact hv⟩
  ·refine(ok b u q).P2 (λc v hc r=>k c v ?_ r) (λc r=>by rw[a7 (qR c b r)];exact r) λc xs r=>by rw[a7 (wF c xs r)];exact r
   rcases hc with rfl|hc
   ·exact oQ
   ·rintro rfl;rcases he with z|z
    ·exact qR c b hc z
    ·rw[hc] at z;cases z;exact hb rfl
end
structure Un(fs ex:List Addr)(H H':Hp)(h h':Heap):Prop where
 keep:∀b o,h.get? b=some o->H b=none->b∉fs->b∉ex->h'.get? b=some o
 slot:∀b o,h.get? b=some o->H b=none->b∈fs->b∉ex->∃sl,h'.get? b=some { o with slots:=sl }
 free:∀b o,h.get? b=some o->H b=none->b∉ex->H' b=none
 there:∀b o,h.get? b=some o->b∉ex->∃o',h'.get? b=some o'
 gL:∀b xs,H b=some (.tup xs)->H' b=some (.tup xs)
 gD:∀b o u,H b=some (.iW o u)->H' b=some (.iW o u)
 gM:∀b ps,H b=some (.ny ps)->∃more,H' b=some (.ny (ps++more))
section
variable{fs ex:List Addr}{H1:Hp}{h1:Heap}{x e:Addr}
theorem Un.any(u:Un fs ex H H1 h h1){ob:Obj}(q:h.get? b=some ob)(n:H b=none)(hx:b∉ex):∃sl,h1.get? b=some { ob with slots:=sl }:=by
 by_cases hb:b∈fs
 ·exact u.slot b ob q n hb hx
 ·exact⟨ob.slots,u.keep b ob q n hb hx⟩
theorem Un.kept(k:∀b u,h.get? b=some u->h'.get? b=some u):Un fs ex H H h h' :=
 ⟨λb ob q _ _ _=>k b ob q,λb ob q _ _ _=>⟨ob.slots,k b ob q⟩,λ_ _ _ n _=>n,λb ob q _=>⟨ob,k b ob q⟩,λ_ _ q=>q,λ_ _ _ q=>q,λ_ ps q=>⟨#[],by rw[q];simp⟩⟩
theorem Un.refl:Un fs ex H H h h:=Un.kept λ_ _ q=>q
theorem Un.laid(k:∀b u,h.get? b=some u->h'.get? b=some u)(hp:h.objs.size<=a)(hn:H a=none):Un fs ex H (upd H a o) h h' where
 keep:=λb u q _ _ _=>k b u q
 slot:=λb u q _ _ _=>⟨u.slots,k b u q⟩
 free:=λb u q n _=>by rw[a7 (aE (ak (aq q) hp))];exact n
 there:=λb u q _=>⟨u,k b u q⟩
 gL:=λb xs q=>by rw[a7 (d4 q hn)];exact q
 gD:=λb u xs q=>by rw[a7 (d4 q hn)];exact q
 gM:=λb ps q=>⟨#[],by rw[a7 (d4 q hn),q];simp⟩
theorem Un.write(mu:tY (H x))(he:e=x\/H e=some (.own x))(k:∀b u,b≠e->h.get? b=some u->h'.get? b=some u)(nJ:∃u,h'.get? e=some u):Un fs ex H (upd H x o) h h':=by
 have hx:∀b,H b=none->b≠x:=λb n z=>by subst z;rw[n] at mu;exact mu
 have hb:∀b,H b=none->b≠e:=λb n z=>by
  subst z;rcases he with r|r
  ·exact hx b n r
  ·rw[n] at r;cases r
 have hm:∀b u,H b=some u->¬tY (some u)->b≠x:=λb u q nm z=>by subst z;rw[q] at mu;exact nm mu
 refine ⟨λb u q n _ _=>k b u (hb b n) q,λb u q n _ _=>⟨u.slots,k b u (hb b n) q⟩,λb u q n _=>by rw [a7 (hx b n)];exact n,λb u q _=>?_,
  λb xs q=>by rw [a7 (hm b _ q λz=>z)];exact q,λb u xs q=>by rw [a7 (hm b _ q λz=>z)];exact q,λb ps q=>⟨#[],by rw [a7 (hm b _ q λz=>z),q];simp⟩⟩
 by_cases oQ:b=e
 ·subst oQ;exact nJ
 ·exact⟨u,k b u oQ q⟩
end
def mO(h:Heap)(H:Hp):List Addr:=(List.range h.objs.size).filter λa=>(H a).isSome
def Y6(h:Heap)(H:Hp):Heap:=PySem.W.hideAll h (mO h H)
theorem TV(h:Heap)(H:Hp):(Y6 h H).objs.size=h.objs.size:=PySem.W.hideAll_size _ _
theorem WV{o:Obj}(e:h.get? b=some o)(n:H b=none):(Y6 h H).get? b=some o :=
 AB _ e λhm=>by
  have q:(H b).isSome=true:=(cy.mp hm).2;rw[n] at q;simp at q
theorem Nb{o:Obj}(e:(Y6 h H).get? b=some o):h.get? b=some o/\H b=none:=by
 have e':h.get? b=some o:=GV (mO h H) e;refine⟨e',?_⟩;cases q:H b with
 |none=>rfl
 |some x =>
  have hm:b∈mO h H:=cy.mpr ⟨List.mem_range.mpr (aq e'),by simp[q]⟩;have z:(Y6 h H).get? b=none:=PySem.W.hideAll_none (mO h H) hm;rw[z] at e;cases e
structure Mod(K:PySem.W.Frag)(mg:Str->Option Value)(base:Heap):Prop where
 lF:K.In base
 glob:base.Ns mainGlobals mg
 blt:∃mb,base.Ns builtinsNs mb/\∀x:Str,x≠"__name__"->mb x=bootBuiltins x
 nolimit:base.NoLimit
structure Cx where
 prog:Program
 w:World
 K:PySem.W.Frag
 mg:Str->Option Value
 base:Heap
 A:Around
 N:List Str
 cR:Shared
 iA:Hp
 env:Env
 outer:List Env
 stack:List Env
 ex:List Addr
 fn:Str->Bool
 calm:Bool
 pn:List (Addr×Obj)
 xe:Value->Shared->Prop
def ft(l:List Env):List Addr:=l.filterMap (·.frame)
noncomputable abbrev Cx.fs(X:Cx):List Addr:=ft X.outer
def tT(sc:Scope)(x:Str):Prop:=sc.names.lookup x=some .local\/sc.names.lookup x=some .cell\/sc.names.lookup x=some .free
def Loc(sc:Scope)(x:Str):Prop:=sc.names.lookup x=some .local\/sc.names.lookup x=some .cell
def Look(env:Env)(h:Heap)(m:Str->Option Value)(x:Str)(u:Value):Prop :=
 (env.kindOf x=some .local/\m x=some u)\/((env.kindOf x=some .cell\/env.kindOf x=some .free)/\∃c,env.cells.lookup x=some c/\h.IsCell c (some u))
structure Cx.Ok(X:Cx):Prop where
 mod:Mod X.K X.mg X.base
 kind:X.env.scope.kind=.function
 glob:X.env.globals=mainGlobals
 blt:X.env.builtins=builtinsNs
 above:X.cR.heap.objs.size<=X.env.locals
 inj:∀x y c,X.env.cells.lookup x=some c->X.env.cells.lookup y=some c->x=y
 has:∀x,(X.env.kindOf x=some .cell\/X.env.kindOf x=some .free)->∃c,X.env.cells.lookup x=some c
 fN:∀x c,X.fn x=true->X.env.cells.lookup x=some c->X.cR.heap.objs.size<=c
 hd:X.calm=true->X.A.handled=none
 frames:X.A.frames=some X.stack
 ow:X.stack=X.outer\/(X.stack=X.env::X.outer/\X.env.frame=some X.env.locals)
 sy:∀b∈X.ex,b≠X.env.locals/\∀x c,X.env.cells.lookup x=some c->c≠b
 bs:∀b o,X.base.get? b=some o->X.cR.heap.get? b=some o/\X.iA b=none
 lV:X.base.objs.size<=X.cR.heap.objs.size
 jq:∀b o,X.base.get? b=some o->b∉X.ex
 jQ:∀b∈X.ex,b∉X.fs
 F9:X.cR.heap.FunFrames X.base X.outer
 mw:∀b∈X.fs,X.iA b=none
structure Inv(X:Cx)(pins:List (Addr×Obj))(Z:List (Option V))(H:Hp)(s:Shared):Prop where
 ok:X.Ok
 os:s.os=X.cR.os
 bare:AllBare s.gens
 base:Un X.fs X.ex X.iA H X.cR.heap s.heap
 loc:∃m,s.heap.Ns X.env.locals m/\∀(i:Nat) (x:Str) (v:V),X.N[i]?=some x->Z[i]?=some (some v)->tT X.env.scope x->∃u,RelV v u/\Look X.env s.heap m x u
 cell:∀x c,X.env.cells.lookup x=some c->∃v,s.heap.IsCell c v
 free:H X.env.locals=none
 dJ:∀x c,X.env.cells.lookup x=some c->H c=none
 pin:∀p∈X.pn++pins,s.heap.get? p.1=some p.2/\H p.1=none/\p.1≠X.env.locals/\p.1∉X.fs/\∀v,p.2.data≠.cell v
 br:fA X.prog X.w H s.heap
 len:Z.length=X.N.length
section
variable{Z:List (Option V)}
theorem Cx.Ok.Pk(ok:X.Ok){o:Obj}(e:X.base.get? b=some o):b∉X.fs:=λhb=>by
 have:=(ok.F9.mem hb).1;rw[e] at this;cases this
theorem Inv.bs(I:Inv X pins Z H s):∀b o,X.base.get? b=some o->s.heap.get? b=some o/\H b=none:=λb o e =>
 ⟨I.base.keep b o (I.ok.bs b o e).1 (I.ok.bs b o e).2 (I.ok.Pk e) (I.ok.jq b o e),I.base.free b o (I.ok.bs b o e).1 (I.ok.bs b o e).2 (I.ok.jq b o e)⟩
theorem Inv.bk(I:Inv X pins Z H s):∀b o,X.base.get? b=some o->s.heap.get? b=some o:=λb o e=>(I.bs b o e).1
theorem Inv.mod(I:Inv X pins Z H s):Mod X.K X.mg X.base:=I.ok.mod
theorem Inv.fE(I:Inv X pins Z H s):X.K.In s.heap:=I.ok.mod.lF.keeps I.bk
theorem Inv.lt(I:Inv X pins Z H s):X.env.locals<s.heap.objs.size:=let ⟨_,hn,_⟩:=I.loc;hn.lt
theorem Inv.sz(I:Inv X pins Z H s):X.cR.heap.objs.size<=s.heap.objs.size:=aI I.ok.above (cL I.lt)
theorem Inv.pB(I:Inv X pins Z H s)(h:s.heap.objs.size<=a):a∉X.fs:=λhb=>by
 obtain⟨_,o,ho,_⟩:=I.ok.F9.mem hb;exact absurd (ak (aq ho) (aI I.sz h)) (aX _)
theorem Inv.pb(I:Inv X pins Z H s):∀x c,X.env.cells.lookup x=some c->c≠X.env.locals:=λx c e z=>by
 obtain⟨v,o,ho,hd⟩:=I.cell x c e;obtain⟨m,⟨o',es,ep,lK,xA,_⟩,_⟩:=I.loc;rw[z,lK] at ho;cases ho;rw[xA] at hd;cases hd
theorem Inv.F9(I:Inv X pins Z H s):s.heap.FunFrames X.base X.outer:=by
 have all:∀(l:List Env),(∀b∈ft l,b∈X.fs)->X.cR.heap.FunFrames X.base l->s.heap.FunFrames X.base l:=by
  intro l
  induction l with
  |nil=>intro _ _;trivial
  |cons env r ih =>
   intro hs hl;obtain⟨hk,⟨L,o,hf,hn,ho,hd⟩,hr⟩:=hl;have hL:L∈X.fs:=hs L (by unfold ft;rw[dI,hf];exact fI);obtain⟨sl,e⟩:=I.base.slot L o ho (I.ok.mw L hL) hL λz=>I.ok.jQ L z hL;exact⟨hk,⟨L,_,hf,hn,e,hd⟩,ih (λb hb=>hs b (by unfold ft;rw[dI,hf];exact bI _ hb)) hr⟩
 exact all X.outer (λ_ hb=>hb) I.ok.F9
theorem Inv.stack(I:Inv X pins Z H s):s.heap.FunFrames X.base X.stack:=by
 rcases I.ok.ow with e|⟨e,hf⟩
 ·rw[e];exact I.F9
 ·rw[e];obtain⟨m,hn,_⟩:=I.loc;refine .cons (by rw[I.ok.kind];decide) hf hn ?_ I.F9;exact Heap.get?_none_of_le (aI I.ok.lV I.ok.above)
theorem Inv.E1(I:Inv X pins Z H s):∀b∈ft X.stack,b∈X.env.locals::X.fs:=λb hb=>by
 rcases I.ok.ow with e|⟨e,hf⟩
 ·rw[e] at hb;exact bI _ hb
 ·rw[e] at hb;unfold ft at hb;rw[dI,hf] at hb;exact hb
theorem Inv.vJ(I:Inv X pins Z H s):∀b∈ft X.stack,H b=none:=λb hb=>by
 rcases aw.mp (I.E1 b hb) with e|hb
 ·rw[e];exact I.free
 ·obtain⟨_,o,ho,_⟩:=I.ok.F9.mem hb;exact I.base.free b o ho (I.ok.mw b hb) λz=>I.ok.jQ b z hb
theorem Inv.step{g':Array GenState}{t':Nat}{d':Drawn}{ch:List Addr}(I:Inv X pins Z H s)(mn:∀b∈ch,(b∈X.ex\/X.cR.heap.objs.size<=b)/\b≠X.env.locals/\(∀x c,X.env.cells.lookup x=some c->c≠b)/\∀p∈X.pn++pins,p.1≠b)(keep:∀b o,b≠X.env.locals->b∉X.fs->b∉ch->s.heap.get? b=some o->H b=none->h'.get? b=some o)(slot:∀b o,b≠X.env.locals->b∈X.fs->b∉ch->s.heap.get? b=some o->H b=none->∃sl,h'.get? b=some { o with slots:=sl })(free:∀b o,b∉ch->s.heap.get? b=some o->H b=none->H' b=none)(there:∀b o,b∉ch->s.heap.get? b=some o->∃o',h'.get? b=some o')(gL:∀b xs,H b=some (.tup xs)->H' b=some (.tup xs))(gD:∀b o u,H b=some (.iW o u)->H' b=some (.iW o u))(gM:∀b ps,H b=some (.ny ps)->∃more,H' b=some (.ny (ps++more)))(ns:∀m,s.heap.Ns X.env.locals m->h'.Ns X.env.locals m)(br:fA X.prog X.w H' h')(hg:AllBare g') :
  Inv X pins Z H' { s with heap:=h',gens:=g',drawn:=d',toks:=t' }:=by
 have Bd:∀b o,X.cR.heap.get? b=some o->b≠X.env.locals:=λb o e=>aE (ak (aq e) I.ok.above);have mf:∀b o,X.cR.heap.get? b=some o->b∉X.ex->b∉ch:=λb o e hx hb=>by
  rcases(mn b hb).1 with z|z
  ·exact hx z
  ·exact absurd (ak (aq e) z) (aX _)
 have cellK:∀x c,X.env.cells.lookup x=some c->∀v,s.heap.IsCell c v->h'.IsCell c v:=λx c e v aS=>by
  obtain⟨o,ho,hd⟩:=aS;have qV:c∉ch:=λz=>(mn c z).2.2.1 x c e rfl;by_cases hc:c∈X.fs
  ·obtain⟨sl,q⟩:=slot c o (I.pb x c e) hc qV ho (I.dJ x c e);exact⟨_,q,hd⟩
  ·exact⟨o,keep c o (I.pb x c e) hc qV ho (I.dJ x c e),hd⟩
 refine⟨I.ok,I.os,hg,⟨λb o e n hb hx=>?_,λb o e n hb hx=>?_,λb o e n hx=>?_,λb o e hx=>?_,λb xs e=>gL b xs (I.base.gL b xs e),λb o xs e=>gD b o xs (I.base.gD b o xs e),λb ps e=>?_⟩,?_,λx c e=>?_,?_,λx c e=>?_,λp hp=>?_,br,I.len⟩
 ·exact keep b o (Bd b o e) hb (mf b o e hx) (I.base.keep b o e n hb hx) (I.base.free b o e n hx)
 ·obtain⟨sl,e1⟩:=I.base.slot b o e n hb hx;obtain⟨Hn,e2⟩:=slot b _ (Bd b o e) hb (mf b o e hx) e1 (I.base.free b o e n hx);exact⟨Hn,e2⟩
 ·obtain⟨o',e1⟩:=I.base.there b o e hx;exact free b o' (mf b o e hx) e1 (I.base.free b o e n hx)
 ·obtain⟨o',e1⟩:=I.base.there b o e hx;exact there b o' (mf b o e hx) e1
 ·obtain⟨m1,e1⟩:=I.base.gM b ps e;obtain⟨m2,e2⟩:=gM b _ e1;exact⟨m1++m2,by rw[e2,GX]⟩
 ·obtain⟨m,hn,hl⟩:=I.loc;refine⟨m,ns m hn,λi x v e1 e2 e3=>?_⟩;obtain⟨u,r,l⟩:=hl i x v e1 e2 e3;refine⟨u,r,?_⟩;rcases l with l|⟨k,c,e,z⟩
  ·exact .inl l
  ·exact .inr ⟨k,c,e,cellK x c e _ z⟩
 ·obtain⟨v,z⟩:=I.cell x c e;exact⟨v,cellK x c e v z⟩
 ·obtain⟨m,⟨o,_,_,ho,_⟩,_⟩:=I.loc;exact free _ o (λz=>(mn _ z).2.1 rfl) ho I.free
 ·obtain⟨v,o,ho,hd⟩:=I.cell x c e;exact free c o (λz=>(mn c z).2.2.1 x c e rfl) ho (I.dJ x c e)
 ·obtain⟨e,n,ne,nf,d⟩:=I.pin p hp;have qV:p.1∉ch:=λz=>(mn p.1 z).2.2.2 p hp rfl;exact⟨keep p.1 p.2 ne nf qV e n,free p.1 p.2 qV e n,ne,nf,d⟩
theorem Inv.un{t':Nat}(I:Inv X pins Z H s)(u:Un X.fs [] H H' s.heap h')(br:fA X.prog X.w H' h'):Inv X pins Z H' { s with heap:=h',toks:=t' }:=by
 obtain⟨m,⟨o,es,ep,ho,r⟩,_⟩:=id I.loc;obtain⟨sl,hL⟩:=u.any ho I.free (by simp);exact I.step (g':=s.gens) (d':=s.drawn) (ch:=[]) (λ_ z=>nomatch z) (λb o _ hb _ e n=>u.keep b o e n hb (by simp)) (λb o _ hb _ e n=>u.slot b o e n hb (by simp)) (λb o _ e n=>u.free b o e n (by simp)) (λb o _ e=>u.there b o e (by simp)) u.gL u.gD u.gM (λm' hm=>by
  obtain⟨o',uL,ym,lK,r'⟩:=hm;rw[ho] at lK;cases lK;exact ⟨_,uL,ym,hL,r'⟩) br I.bare
theorem Inv.call{g':Array GenState}{t':Nat}{d':Drawn}(I:Inv X pins Z H s)(u:Un (ft X.stack) ch H H' s.heap h')(br:fA X.prog X.w H' h')(hg:AllBare g')(mn:∀b∈ch,(b∈X.ex\/X.cR.heap.objs.size<=b)/\b≠X.env.locals/\(∀x c,X.env.cells.lookup x=some c->c≠b)/\∀p∈X.pn++pins,p.1≠b) :
  Inv X pins Z H' { s with heap:=h',gens:=g',drawn:=d',toks:=t' }:=by
 obtain⟨m,⟨o,es,ep,ho,r⟩,_⟩:=id I.loc;obtain⟨sl,hL⟩:=u.any ho I.free λz=>(mn _ z).2.1 rfl;exact I.step (ch:=ch) mn (λb o hL hb hc e n=>u.keep b o e n (λz=>(aw.mp (I.E1 b z)).elim hL hb) hc) (λb o _ _ hc e n=>u.any e n hc) (λb o hc e n=>u.free b o e n hc) (λb o hc e=>u.there b o e hc) u.gL u.gD u.gM (λm' hm=>by
  obtain⟨o',uL,ym,lK,r'⟩:=hm;rw[ho] at lK;cases lK;exact ⟨_,uL,ym,hL,r'⟩) br hg
theorem Inv.turned{t':Nat}{it:Addr}(I:Inv X pins Z H s)(k:∀b o,b≠it->s.heap.get? b=some o->h'.get? b=some o)(hn:H it=none)(hL:it≠X.env.locals)(h1:it∈X.ex\/X.cR.heap.objs.size<=it)(h2:∀x c,X.env.cells.lookup x=some c->c≠it)(h3:∀p∈X.pn++pins,p.1≠it):Inv X pins Z H { s with heap:=h',toks:=t' }:=by
 have Bc:∀b u,H b=some u->b≠it:=λb u e z=>by rw[z,hn] at e;cases e
 refine I.step (g':=s.gens) (d':=s.drawn) (ch:=[it]) (λb hb=>?_) (λb o _ _ hc e _=>k b o (λz=>hc (by simp[z])) e) (λb o _ _ hc e _=>⟨o.slots,k b o (λz=>hc (by simp[z])) e⟩) (λ_ _ _ _ n=>n)
  (λb o hc e=>⟨o,k b o (λz=>hc (by simp[z])) e⟩) (λ_ _ e=>e) (λ_ _ _ e=>e) (λb ps e=>⟨#[],by rw[e];simp⟩) (λm hm=>?_) (λb u e=>?_) I.bare
 ·have e:b=it:=by simpa using hb
  subst e;exact⟨h1,hL,h2,h3⟩
 ·obtain⟨o,es,ep,ho,r⟩:=hm;exact⟨o,es,ep,k _ o (bg hL) ho,r⟩
 ·refine(I.br b u e).P2 (λc v hc q=>k c v ?_ q) (λ_ q=>q) λ_ _ q=>q;rcases hc with z|z
  ·rw[z];exact Bc b u e
  ·exact Bc c _ z
theorem Inv.tok(I:Inv X pins Z H s)(t:Nat):Inv X pins Z H { s with toks:=t }:=I.un (h':=s.heap) (t':=t) Un.refl I.br
theorem Inv.kept{t':Nat}(I:Inv X pins Z H s)(k:∀b u,s.heap.get? b=some u->h'.get? b=some u):Inv X pins Z H { s with heap:=h',toks:=t' }:=I.un (Un.kept k) (I.br.kept k)
theorem Inv.laid{a:Addr}{o:HO}{t':Nat}(I:Inv X pins Z H s)(k:∀b u,s.heap.get? b=some u->h'.get? b=some u)(hp:s.heap.objs.size<=a)(new:j4 X.prog X.w (upd H a o) h' a o) :
  Inv X pins Z (upd H a o) { s with heap:=h',toks:=t' }:=I.un (Un.laid k hp (I.br.fresh hp)) (I.br.laid k hp new)
theorem Inv.write{x e:Addr}{o:HO}{t':Nat}(I:Inv X pins Z H s)(mu:tY (H x))(he:e=x\/H e=some (.own x))(k:∀b u,b≠e->s.heap.get? b=some u->h'.get? b=some u)(nJ:∃u,h'.get? e=some u)(new:j4 X.prog X.w (upd H x o) h' x o):Inv X pins Z (upd H x o) { s with heap:=h',toks:=t' }:=I.un (Un.write mu he k nJ) (I.br.write mu he k nJ new)
theorem Inv.weak{bL:List (Option V)}(I:Inv X pins Z H s)(hl:bL.length=Z.length)(w:∀(i:Nat) v,bL[i]?=some (some v)->Z[i]?=some (some v)):Inv X pins bL H s :=
 ⟨I.ok,I.os,I.bare,I.base,let ⟨m,hn,Bv⟩:=I.loc;⟨m,hn,λi x v e1 e2 e3=>Bv i x v e1 (w i v e2) e3⟩,I.cell,I.free,I.dJ,I.pin,I.br,hl.trans I.len⟩
theorem Inv.w9{hZ:List (Addr×Obj)}(I:Inv X pins Z H s)(h:∀p∈hZ,s.heap.get? p.1=some p.2/\H p.1=none/\p.1≠X.env.locals/\p.1∉X.fs/\∀v,p.2.data≠.cell v):Inv X hZ Z H s :=
 ⟨I.ok,I.os,I.bare,I.base,I.loc,I.cell,I.free,I.dJ,λp hp=>(dS.mp hp).elim (λz=>I.pin p (cM _ z)) (h p),I.br,I.len⟩
theorem Dv(hN:N.Nodup)(a:N[i]?=some x)(b:N[j]?=some x):i=j:=by
 obtain⟨h1,e1⟩:=ax.mp a;obtain⟨h2,e2⟩:=ax.mp b;exact(List.getElem_inj hN).mp (e1.trans e2.symm)
theorem Ei{Q:Unit->Shared->Prop}(I:Inv X pins Z H s)(hN:X.N.Nodup)(hi:X.N[i]?=some x)(hx:Loc X.env.scope x)(r:RelV v u)(h:∀s',Inv X pins (Z.set i (some v)) H s'->(∃a,Heap.SameBut a s.heap s'.heap/\(a=X.env.locals\/X.env.cells.lookup x=some a))->Q () s')(hf:X.fn x=true\/X.env.scope.names.lookup x=some .local:=by first|exact .inl rfl|exact .inr rfl|assumption):wpAny M A (storeName X.env x u) Q E s:=by
 obtain⟨m,hn,hl⟩:=id I.loc;have mY:(X.env.scope.kind==.class||(X.env.scope.kind==.module&&X.env.locals != X.env.globals))=false:=by rw[I.ok.kind];rfl
 have rL:i<Z.length:=by rw[I.len];exact(ax.mp hi).1
 have pb:=I.pb;have tracked:∀{a:Addr} {h':Heap},(∃o,s.heap.get? a=some o/\H a=none)->Heap.SameBut a s.heap h'->fA X.prog X.w H h':=λ{a h'} ha hs b ob e=>by
  obtain⟨_,_,lM⟩:=ha;refine(I.br b ob e).P2 (λc w' hc q=>(hs.2 c ?_).trans q) (λ_ q=>q) λ_ _ q=>q;rintro rfl;rcases hc with rfl|hc
  ·rw[lM] at e;cases e
  ·rw[lM] at hc;cases hc
 rcases hx with hk|hk
 ·refine wpAny_storeName_local hk hn (λh' Im hs=>?_) mY;obtain⟨oL,_,_,kz,_⟩:=id hn;refine h _ ⟨I.ok,I.os,I.bare,⟨λb o e n hb hx=>?_,λb o e n hb hx=>?_,I.base.free,λb o e hx=>?_,I.base.gL,I.base.gD,I.base.gM⟩,⟨_,Im,λj y v' e1 e2 e3=>?_⟩,λy c e=>?_,I.free,I.dJ,λp hp=>?_,tracked ⟨oL,kz,I.free⟩ hs,by simpa using I.len⟩ ⟨_,hs,.inl rfl⟩
  ·exact(hs.2 b (aE (ak (aq e) I.ok.above))).trans (I.base.keep b o e n hb hx)
  ·obtain⟨sl,e1⟩:=I.base.slot b o e n hb hx;exact⟨sl,(hs.2 b (aE (ak (aq e) I.ok.above))).trans e1⟩
  ·obtain⟨o',e1⟩:=I.base.there b o e hx;exact⟨o',(hs.2 b (aE (ak (aq e) I.ok.above))).trans e1⟩
  ·by_cases hj:j=i
   ·subst hj;rw[hi] at e1;cases e1;rw[aY rL] at e2;cases e2;exact⟨u,r,.inl ⟨hk,by simp⟩⟩
   ·rw[aN (bg hj)] at e2;obtain⟨u',r',q⟩:=hl j y v' e1 e2 e3;refine⟨u',r',?_⟩;rcases q with⟨k,e⟩|⟨k,c,e,z⟩
    ·refine .inl ⟨k,?_⟩;have:y≠x:=λe=>hj (Dv hN e1 (e▸hi));simp[this,e]
    ·exact .inr ⟨k,c,e,z.sameBut hs (pb y c e)⟩
  ·obtain⟨w',z⟩:=I.cell y c e;exact⟨w',z.sameBut hs (pb y c e)⟩
  ·obtain⟨e,n,ne,nf,d⟩:=I.pin p hp;exact⟨(hs.2 p.1 ne).trans e,n,ne,nf,d⟩
 ·have pW:X.fn x=true:=by
   rcases hf with z|z
   ·exact z
   ·rw[z] at hk;cases hk
  obtain⟨c,hc⟩:=I.ok.has x (.inl hk);obtain⟨w',z⟩:=I.cell x c hc;refine wpAny_storeName_cell I.ok.kind hk hc z (λh' rW hs=>?_);obtain⟨oc,xn,xl⟩:=id z;refine h { s with heap:=h' } ⟨I.ok,I.os,I.bare,⟨λb o e n hb hx=>?_,λb o e n hb hx=>?_,I.base.free,λb o e hx=>?_,I.base.gL,I.base.gD,I.base.gM⟩,⟨m,hn.sameBut hs (bg (pb x c hc)),λj y v' e1 e2 e3=>?_⟩,λy c' e=>?_,I.free,I.dJ,λp hp=>?_,tracked ⟨oc,xn,I.dJ x c hc⟩ hs,by simpa using I.len⟩ ⟨c,hs,.inr hc⟩
  ·exact(hs.2 b (aE (ak (aq e) (I.ok.fN x c pW hc)))).trans (I.base.keep b o e n hb hx)
  ·obtain⟨sl,e1⟩:=I.base.slot b o e n hb hx;exact⟨sl,(hs.2 b (aE (ak (aq e) (I.ok.fN x c pW hc)))).trans e1⟩
  ·obtain⟨o',e1⟩:=I.base.there b o e hx;exact⟨o',(hs.2 b (aE (ak (aq e) (I.ok.fN x c pW hc)))).trans e1⟩
  ·by_cases hj:j=i
   ·subst hj;rw[hi] at e1;cases e1;rw[aY rL] at e2;cases e2;exact⟨u,r,.inr ⟨.inl hk,c,hc,rW⟩⟩
   ·rw[aN (bg hj)] at e2;obtain⟨u',r',q⟩:=hl j y v' e1 e2 e3;refine⟨u',r',?_⟩;rcases q with q|⟨k,c',e,z'⟩
    ·exact .inl q
    ·refine .inr ⟨k,c',e,z'.sameBut hs ?_⟩;rintro rfl;exact hj (Dv hN e1 (I.ok.inj _ _ _ e hc▸hi))
  ·by_cases pX:c'=c
   ·subst pX;exact⟨_,rW⟩
   ·obtain⟨w2,z2⟩:=I.cell y c' e;exact⟨w2,z2.sameBut hs pX⟩
  ·obtain⟨e,n,ne,nf,d⟩:=I.pin p hp;refine⟨(hs.2 p.1 ?_).trans e,n,ne,nf,d⟩;intro q;rw[q,xn] at e;have q':oc=p.2:=aB e;exact d w' (by rw[<- q'];exact xl)
theorem P1{Q:Unit->Shared->Prop}(I:Inv X pins Z H s)(hN:X.N.Nodup)(hi:X.N[i]?=some x)(hx:Loc X.env.scope x)(r:RelV v u)(h:∀s',Inv X pins (Z.set i (some v)) H s'->Q () s')(hf:X.fn x=true\/X.env.scope.names.lookup x=some .local:=by first|exact .inl rfl|exact .inr rfl|assumption):wpAny M A (storeName X.env x u) Q E s :=
 Ei I hN hi hx r (λs' I' _=>h s' I') hf
theorem Inv.zB{s':Shared}(I:Inv X pins Z H s)(ho:s'.os=s.os)(u:Un (ft X.stack) ch H H' s.heap s'.heap)(br:fA X.prog X.w H' s'.heap)(hg:AllBare s'.gens)(mn:∀b∈ch,(b∈X.ex\/X.cR.heap.objs.size<=b)/\b≠X.env.locals/\(∀x c,X.env.cells.lookup x=some c->c≠b)/\∀p∈X.pn++pins,p.1≠b):Inv X pins Z H' s':=by
 obtain⟨h',g',d',t',o'⟩:=s';have e:o'=s.os:=ho;subst e;exact I.call (g':=g') (t':=t') (d':=d') u br hg mn
end
noncomputable abbrev XK:=Value->Option Addr->Hp->Prop
noncomputable abbrev St:=List (Option V)
noncomputable abbrev VK:=V->Hp->Prop
noncomputable abbrev TE:=St->Hp->VK->Prop
noncomputable abbrev TT:=St->Hp->(Bool->Hp->Prop)->Prop
noncomputable abbrev TA:=St->Hp->(List V->Hp->Prop)->Prop
structure Ends where
 nx:St->Hp->Prop
 rt:VK
 bk:St->Hp->Prop:=λ_ _=>False
 ct:St->Hp->Prop:=λ_ _=>False
noncomputable abbrev TS:=Ends->St->Hp->Prop
def EP(X:Cx)(pins:List (Addr×Obj))(Z:St)(Q:VK)(u:Value)(s':Shared):Prop:=∃v H',Inv X pins Z H' s'/\RelV v u/\Q v H'
def TP(X:Cx)(pins:List (Addr×Obj))(Z:St)(Q:Bool->Hp->Prop)(b:Bool)(s':Shared):Prop:=∃H',Inv X pins Z H' s'/\Q b H'
def AP(X:Cx)(pins:List (Addr×Obj))(Z:St)(Q:List V->Hp->Prop)(us:List Value)(s':Shared):Prop:=∃vs H',Inv X pins Z H' s'/\Vals vs us/\Q vs H'
def SP(X:Cx)(pins:List (Addr×Obj))(D:Ends)(f:Flow)(s':Shared):Prop :=
 match f with
 |.next=>∃bL H',Inv X pins bL H' s'/\D.nx bL H'
 |.brk=>∃bL H',Inv X pins bL H' s'/\D.bk bL H'
 |.cont=>∃bL H',Inv X pins bL H' s'/\D.ct bL H'
 |.ret u=>∃v bL H',Inv X pins bL H' s'/\RelV v u/\D.rt v H'
def PE(X:Cx)(e:Expr)(t:TE):Prop :=
 ∀(pins:List (Addr×Obj)) (s:Shared) (Z:St) (H:Hp) (Q:VK),Inv X pins Z H s->t Z H Q->wpAny (model X.prog X.w) X.A (eval e X.env) (EP X pins Z Q) X.xe s
def PT(X:Cx)(e:Expr)(t:TT):Prop :=
 ∀(pins:List (Addr×Obj)) (s:Shared) (Z:St) (H:Hp) (Q:Bool->Hp->Prop),Inv X pins Z H s->t Z H Q->wpAny (model X.prog X.w) X.A (isTrue e X.env (eval e X.env)) (TP X pins Z Q) X.xe s
def PW(X:Cx)(e:Expr)(t:TT):Prop :=
 ∀(whole:Sem Value) (pins:List (Addr×Obj)) (s:Shared) (Z:St) (H:Hp) (Q:Bool->Hp->Prop),Inv X pins Z H s->t Z H Q->wpAny (model X.prog X.w) X.A (isTrue e X.env whole) (TP X pins Z Q) X.xe s
theorem PW.pt{t:TT}(h:PW X e t):PT X e t:=h _
def PA(X:Cx)(es:List Expr)(t:TA):Prop :=
 ∀(pos:Pos) (pins:List (Addr×Obj)) (s:Shared) (Z:St) (H:Hp) (Q:List V->Hp->Prop),Inv X pins Z H s->t Z H Q->wpAny (model X.prog X.w) X.A (spliced (backTo pos (starEach es X.env))) (AP X pins Z Q) X.xe s
def PS(X:Cx)(st:Stmt)(t:TS):Prop :=
 ∀(pins:List (Addr×Obj)) (s:Shared) (Z:St) (H:Hp) (D:Ends),Inv X pins Z H s->t D Z H->wpAny (model X.prog X.w) X.A (exec st X.env) (SP X pins D) X.xe s
def ij(X:Cx)(st:List Stmt)(t:TS):Prop :=
 ∀(pins:List (Addr×Obj)) (s:Shared) (Z:St) (H:Hp) (D:Ends),Inv X pins Z H s->t D Z H->wpAny (model X.prog X.w) X.A (execs st X.env) (SP X pins D) X.xe s
theorem bS{t:Sem α}{Q Q':α->Shared->Prop}(h:wpAny M A t Q E s)(hQ:∀a s,Q a s->Q' a s):wpAny M A t Q' E s:=aV h hQ λ_ _ x=>x
section
theorem bin{a b:Expr}(ha:PE X a ta)(hb:PE X b tb){R:V->V->Hp->Prop}(I:Inv X pins Z H s)(h:ta Z H λx H1=>tb Z H1 λy H2=>R x y H2){Q:α->Shared->Prop}{f:Value->Value->Sem α}(hf:∀v u s2 x y H2,Inv X pins Z H2 s2->RelV x v->RelV y u->R x y H2->wpAny (model X.prog X.w) X.A (f v u) Q X.xe s2) :
  wpAny (model X.prog X.w) X.A (eval a X.env) (λv bx=>wpAny (model X.prog X.w) X.A (eval b X.env) (λu eJ=>wpAny (model X.prog X.w) X.A (f v u) Q X.xe eJ) X.xe bx) X.xe s:=by
 refine bS (ha pins s Z H _ I h) λv s1 aS=>?_;obtain⟨x,H1,I1,r1,q1⟩:=aS;refine bS (hb pins s1 Z H1 _ I1 q1) λu s2 aS=>?_;obtain⟨y,H2,I2,r2,q2⟩:=aS;exact hf v u s2 x y H2 I2 r1 r2 q2
def nY(i:Nat):TE:=λZ H Q=>∃v,Z[i]?=some (some v)/\Q v H
def tC(v:V):TE:=λ_ H Q=>Q v H
theorem Fv(hN:X.N[i]?=some x)(hv:tT X.env.scope x)(hd:(x==("__debug__":Str))=false:=by decide)(kC:(x==("__classdict__":Str))=false:=by decide):PE X (.Name x pos) (nY i):=by
 intro pins s Z H Q I h;obtain⟨v,e,h⟩:=h;obtain⟨m,hn,hl⟩:=I.loc;obtain⟨u,r,l⟩:=hl i x v hN e hv;have fin:EP X pins Z Q u s:=⟨v,H,I,r,h⟩
 rcases l with⟨hk,hm⟩|⟨hk,c,hc,jZ⟩
 ·exact wpAny_Name (wpAny_loadName_local I.ok.kind hk hn hm fin) hd
 ·rcases hk with hk|hk
  ·exact wpAny_Name (wpAny_loadName_cell I.ok.kind hk hc jZ fin) hd
  ·exact wpAny_Name (wpAny_loadName_free I.ok.kind hk hc jZ fin kC) hd
theorem KL{i j pos}:PE X (.Constant (.int i) j pos) (tC (.int i)):=λ_ _ _ H _ I h=>wpAny_Constant_int ⟨.int i,H,I.tok _,⟨_,rfl⟩,h⟩
theorem RC{b j pos}:PE X (.Constant (.bool b) j pos) (tC (.bl b)):=λ_ _ _ H _ I h=>Constant_bool ⟨.bl b,H,I,rfl,h⟩
theorem KO{j pos}:PE X (.Constant .none j pos) (tC .bc):=λ_ _ _ H _ I h=>Constant_none ⟨.bc,H,I,rfl,h⟩
theorem Fu{x j pos}:PE X (.Constant (.str x) j pos) (tC (.str x)):=λ_ _ _ H _ I h=>Calls.Constant_str ⟨.str x,H,I.tok _,⟨_,rfl⟩,h⟩
def Gl(X:Cx)(x:Str):Prop:=X.env.kindOf x=some .globalImplicit
theorem L7(I:Inv X pins Z H s)(hg:Gl X x)(hm:X.mg x=some u)(h:Q u s)(hd:(x==("__debug__":Str))=false:=by decide):wpAny (model X.prog X.w) X.A (eval (.Name x pos) X.env) Q E s :=
 wa I.ok.kind hg (Calls.loadGlobal_global (by rw[I.ok.glob];exact I.mod.glob.keeps I.bk) hm h) hd
theorem K6(I:Inv X pins Z H s)(hg:Gl X x)(hm:X.mg x=none)(hv:bootBuiltins x=some u)(h:Q u s)(hn:x≠"__name__":=by decide)(hd:(x==("__debug__":Str))=false:=by decide):wpAny (model X.prog X.w) X.A (eval (.Name x pos) X.env) Q E s:=by
 obtain⟨mb,h1,h2⟩:=I.mod.blt;exact wa I.ok.kind hg (Calls.loadGlobal_builtin (by rw[I.ok.glob];exact I.mod.glob.keeps I.bk) hm (by rw[I.ok.blt];exact h1.keeps I.bk) ((h2 x hn).trans hv) h) hd
theorem vE(hg:Gl X x)(hm:X.mg x=some u)(r:RelV v u)(hd:(x==("__debug__":Str))=false:=by decide):PE X (.Name x pos) (tC v) :=
 λ_ _ _ H _ I h=>L7 I hg hm ⟨v,H,I,r,h⟩ hd
theorem Nl(hg:Gl X x)(hm:X.mg x=none)(hv:bootBuiltins x=some u)(r:RelV v u)(hn:x≠"__name__":=by decide)(hd:(x==("__debug__":Str))=false:=by decide):PE X (.Name x pos) (tC v) :=
 λ_ _ _ H _ I h=>K6 I hg hm hv ⟨v,H,I,r,h⟩ hn hd
variable{a b:Expr}
variable{tA uq:TT}{rest:List Expr}
def P'(t u:TT):TT:=λZ H Q=>t Z H λc H1=>if c=true then u Z H1 Q else Q false H1
def Hi(t u:TT):TT:=λZ H Q=>t Z H λc H1=>if c=true then Q true H1 else u Z H1 Q
def Qh(t:TT):TT:=λZ H Q=>t Z H λc H1=>Q (!c) H1
theorem NG(ha:PT X a tA):PW X (.BoolOp .And [a] pos) tA:=by
 intro wh pins s Z H Q I h;refine isTrue_and (bS (ha pins s Z H Q I h) λc s1 e=>?_);cases c with
 |true=>exact isTrue_and_nil e
 |false=>exact e
theorem Lg(ha:PT X a tA):PW X (.BoolOp .Or [a] pos) tA:=by
 intro wh pins s Z H Q I h;refine isTrue_or (bS (ha pins s Z H Q I h) λc s1 e=>?_);cases c with
 |false=>exact isTrue_or_nil e
 |true=>exact e
theorem Lf(ha:PT X a tA)(hb:PW X (.BoolOp .And (b::rest) pos) uq):PW X (.BoolOp .And (a::b::rest) pos) (P' tA uq):=by
 intro wh pins s Z H Q I h;refine isTrue_and (bS (ha pins s Z H _ I h) λc s1 ⟨H1,I1,q1⟩=>?_);cases c with
 |true=>exact hb wh pins s1 Z H1 Q I1 q1
 |false=>exact⟨H1,I1,q1⟩
theorem RL(ha:PT X a tA)(hb:PW X (.BoolOp .Or (b::rest) pos) uq):PW X (.BoolOp .Or (a::b::rest) pos) (Hi tA uq):=by
 intro wh pins s Z H Q I h;refine isTrue_or (bS (ha pins s Z H _ I h) λc s1 ⟨H1,I1,q1⟩=>?_);cases c with
 |true=>exact⟨H1,I1,q1⟩
 |false=>exact hb wh pins s1 Z H1 Q I1 q1
theorem Le(ha:PT X a tA):PT X (.UnaryOp .Not a pos) (Qh tA):=by
 intro pins s Z H Q I h;exact isTrue_not (ha pins s Z H (λc H1=>Q (!c) H1) I h)
def Se(ta tb:TE):TE:=λZ H Q=>ta Z H λx H1=>∃c,x=.bl c/\if c=true then tb Z H1 Q else Q (.bl false) H1
def Qi(ta tb:TE):TE:=λZ H Q=>ta Z H λx H1=>∃c,x=.bl c/\if c=true then Q (.bl true) H1 else tb Z H1 Q
def Sj(ta:TE):TE:=λZ H Q=>ta Z H λx H1=>∃c,x=.bl c/\Q (.bl (!c)) H1
theorem KQ{op}{t:TE}(h:PE X a t):PE X (.BoolOp op [a] pos) t:=λpins s Z H Q I hw=>BoolOp_one (h pins s Z H Q I hw)
theorem KH(ha:PE X a ta)(hb:PE X (.BoolOp .And (b::rest) pos) tb):PE X (.BoolOp .And (a::b::rest) pos) (Se ta tb):=by
 intro pins s Z H Q I h;refine BoolOp_and (bS (ha pins s Z H _ I h) λv s1 aS=>?_);obtain⟨x,H1,I1,r1,q1⟩:=aS;obtain⟨c,rfl,q1⟩:=q1;cases r1;refine bZ ?_;cases c with
 |true=>exact hb pins s1 Z H1 Q I1 q1
 |false=>exact⟨.bl false,H1,I1,rfl,q1⟩
theorem RH(ha:PE X a ta)(hb:PE X (.BoolOp .Or (b::rest) pos) tb):PE X (.BoolOp .Or (a::b::rest) pos) (Qi ta tb):=by
 intro pins s Z H Q I h;refine BoolOp_or (bS (ha pins s Z H _ I h) λv s1 aS=>?_);obtain⟨x,H1,I1,r1,q1⟩:=aS;obtain⟨c,rfl,q1⟩:=q1;cases r1;refine bZ ?_;cases c with
 |false=>exact hb pins s1 Z H1 Q I1 q1
 |true=>exact⟨.bl true,H1,I1,rfl,q1⟩
theorem KP(ha:PE X a ta):PE X (.UnaryOp .Not a pos) (Sj ta):=by
 intro pins s Z H Q I h;refine UnaryOp_ (bS (ha pins s Z H _ I h) λv s1 aS=>?_);obtain⟨x,H1,I1,r1,q1⟩:=aS;obtain⟨c,rfl,q1⟩:=q1;cases r1;exact not_of (bZ ⟨.bl (!c),H1,I1,rfl,q1⟩)
def Hj(t:TT)(ta tb:TE):TE:=λZ H Q=>t Z H λc H1=>if c=true then ta Z H1 Q else tb Z H1 Q
theorem Xt(hc:PT X c tA)(ha:PE X a ta)(hb:PE X b tb):PE X (.IfExp c a b pos) (Hj tA ta tb):=by
 intro pins s Z H Q I h;refine wpAny_IfExp (bS (hc pins s Z H _ I h) λd s1 ⟨H1,I1,q1⟩=>?_);cases d with
 |true=>exact ha pins s1 Z H1 Q I1 q1
 |false=>exact hb pins s1 Z H1 Q I1 q1
end
def eT(K:PySem.W.Frag)(H:Hp)(a:Addr)(xs:List V):Prop :=
 Rd H a (.lst xs) \/
  ∃(o:Obj) (aL:Array Value) (n:Nat),K.lookup a=some o/\o.cls=.type "list"/\o.dict=none/\o.data=.seq aL n/\aL.size<=sizeLine/\Vals xs aL.toList
def gw(K:PySem.W.Frag)(H:Hp)(a:Addr)(xs:List V):Prop :=
 Rd H a (.tup xs) \/
  ∃(o:Obj) (aL:Array Value) (n:Nat),K.lookup a=some o/\o.cls=.type "tuple"/\o.data=.seq aL n/\aL.size<=sizeLine/\Vals xs aL.toList
def Ox:Value->Option V
 |.none=>some .bc
 |.bool b=>some (.bl b)
 |.int i _=>some (.int i)
 |.str x _=>some (.str x)
 |.bytes b _=>some (.kd b)
 |.float b _=>some (.oY b)
 |.ref a=>some (.ref a)
 |.type n=>some (.ty n)
 |_=>none
theorem RelV.abs{x:V}(r:RelV x u):Ox u=some x:=by
 cases x with
 |bc=>cases r;rfl
 |bl _=>cases r;rfl
 |int _=>obtain⟨t,rfl⟩:=r;rfl
 |str _=>obtain⟨t,rfl⟩:=r;rfl
 |kd _=>obtain⟨t,rfl⟩:=r;rfl
 |oY _=>obtain⟨t,rfl⟩:=r;rfl
 |ref _=>cases r;rfl
 |ty _=>cases r;rfl
theorem RelV.inj{x y:V}{u:Value}(r:RelV x u)(q:RelV y u):x=y:=aB (r.abs.symm.trans q.abs)
theorem Vals.inj{xs ys:List V}{us:List Value}(h:Vals xs us)(h':Vals ys us):xs=ys:=by
 induction h generalizing ys with
 |nil=>cases h';rfl
 |cons r t ih =>
  cases h' with
  |cons r' t'=>rw[r.inj r',ih t']
section
variable{ys:List V}
theorem eT.of(h:H a=some (.lst xs)):eT K H a xs:=.inl (.inl h)
theorem Inv.list(I:Inv X pins Z H s)(h:eT X.K H a xs):∃aL:List Value,Vals xs aL/\PlainL s.heap a aL.toArray/\xs.length<=sizeLine:=by
 rcases h with h|⟨o,aL,n,hk,hc,hd,hs,hz,r⟩
 ·obtain⟨z,aL,n,r,e⟩:=h.ok I.br;exact⟨aL,r,⟨_,n,e,rfl,rfl,rfl⟩,z⟩
 ·refine⟨aL.toList,r,⟨o,n,I.fE a o hk,hc,hd,by simpa using hs⟩,?_⟩;have e:=r.length;simp only[Array.length_toList] at e;omega
theorem Inv.tuple(I:Inv X pins Z H s)(h:gw X.K H a xs):∃aL:List Value,Vals xs aL/\IsTup s.heap a aL.toArray/\xs.length<=sizeLine:=by
 rcases h with h|⟨o,aL,n,hk,hc,hs,hz,r⟩
 ·obtain⟨z,aL,r,p⟩:=h.ok I.br;exact⟨aL,r,p.tup,z⟩
 ·refine⟨aL.toList,r,⟨o,I.fE a o hk,hc,n,by simpa using hs⟩,?_⟩;have e:=r.length;simp only[Array.length_toList] at e;omega
theorem Inv.zb(I:Inv X pins Z H s)(h:eT X.K H a xs)(h':eT X.K H a ys):xs=ys:=by
 obtain⟨aL,r,⟨o,n,e,_,_,d⟩,_⟩:=I.list h;obtain⟨its',r',⟨o',n',e',_,_,d'⟩,_⟩:=I.list h';rw[e] at e';cases e';rw[d] at d';injection d' with d1 _;have:aL=its':=by simpa using du Array.toList d1
 subst this;exact r.inj r'
theorem Inv.UM(I:Inv X pins Z H s)(h:gw X.K H a xs)(h':gw X.K H a ys):xs=ys:=by
 obtain⟨aL,r,⟨o,e,_,n,d⟩,_⟩:=I.tuple h;obtain⟨its',r',⟨o',e',_,n',d'⟩,_⟩:=I.tuple h';rw[e] at e';cases e';rw[d] at d';injection d' with d1 _;have:aL=its':=by simpa using du Array.toList d1
 subst this;exact r.inj r'
end
noncomputable abbrev Cx.V8(X:Cx)(E:Value->Shared->Prop):Cx:={ X with xe:=E }
theorem Cx.Ok.V8{X:Cx}(ok:X.Ok)(E:Value->Shared->Prop):(X.V8 E).Ok :=
 ⟨ok.mod,ok.kind,ok.glob,ok.blt,ok.above,ok.inj,ok.has,ok.fN,ok.hd,ok.frames,ok.ow,ok.sy,ok.bs,ok.lV,ok.jq,ok.jQ,ok.F9,ok.mw⟩
theorem Cx.Ok.yC(ok:(X.V8 E).Ok):X.Ok :=
 ⟨ok.mod,ok.kind,ok.glob,ok.blt,ok.above,ok.inj,ok.has,ok.fN,ok.hd,ok.frames,ok.ow,ok.sy,ok.bs,ok.lV,ok.jq,ok.jQ,ok.F9,ok.mw⟩
theorem Inv.V8(I:Inv X pins Z H s)(E:Value->Shared->Prop):Inv (X.V8 E) pins Z H s:=⟨I.ok.V8 E,I.os,I.bare,I.base,I.loc,I.cell,I.free,I.dJ,I.pin,I.br,I.len⟩
theorem Inv.yC(I:Inv (X.V8 E) pins Z H s):Inv X pins Z H s:=⟨I.ok.yC,I.os,I.bare,I.base,I.loc,I.cell,I.free,I.dJ,I.pin,I.br,I.len⟩
section
variable{st:Stmt}{rest:List Stmt}{t u:TS}
def Dj:TS:=λD Z H=>D.nx Z H
def Ql(t u:TS):TS:=λD Z H=>t { D with nx:=u D } Z H
theorem NB:ij X [] Dj:=λ_ _ Z H _ I h=>jb ⟨Z,H,I,h⟩
theorem XF(h1:PS X st t)(h2:ij X rest u):ij X (st::rest) (Ql t u):=by
 intro pins s Z H D I h;refine wpAny_execs_cons (bS (h1 pins s Z H { D with nx:=u D } I h) λf s1 q=>?_);cases f with
 |next =>
  obtain⟨bL,H',I',q⟩:=q;exact h2 pins s1 bL H' D I' q
 |ret v=>exact q
 |brk=>exact q
 |cont=>exact q
theorem Nz:PS X (.Pass pos) Dj:=λ_ _ Z H _ I h=>wpAny_Pass ⟨Z,H,I,h⟩
theorem Inv.quiet(I:Inv X pins Z H s):interactive X.env=false:=by simp[interactive,I.ok.kind]
def Si(te:TE):TS:=λD Z H=>te Z H λ_ H1=>D.nx Z H1
theorem Ny(he:PE X e te)(hs:swapsWith e none pos.line X.env=pure false:=by rfl):PS X (.Expr e pos) (Si te):=by
 intro pins s Z H D I h;exact wpAny_Expr_any (bS (he pins s Z H _ I h) λv s1 ⟨x,H1,I1,r1,q1⟩=>⟨Z,H1,I1,q1⟩) I.quiet hs
def Qk(te:TE):TS:=λD Z H=>te Z H D.rt
theorem Lc(he:PE X e te):PS X (.Return (some e) pos) (Qk te):=by
 intro pins s Z H D I h;exact wpAny_Return_some (bS (he pins s Z H _ I h) λv s1 ⟨x,H1,I1,r1,q1⟩=>⟨x,Z,H1,I1,r1,q1⟩)
def Sl:TS:=λD _ H=>D.rt .bc H
theorem NA:PS X (.Return none pos) Sl:=λ_ _ Z H _ I h=>wpAny_Return_none ⟨.bc,Z,H,I,rfl,h⟩
def Qf(c:TT)(t u:TS):TS:=λD Z H=>c Z H λb H1=>if b=true then t D Z H1 else u D Z H1
theorem RK{a b:List Stmt}{tc:TT}(hc:PT X c tc)(ha:ij X a t)(hb:ij X b u):PS X (.If c a b pos) (Qf tc t u):=by
 intro pins s Z H D I h;refine wpAny_If (bS (hc pins s Z H _ I h) λd s1 ⟨H1,I1,q1⟩=>?_);cases d with
 |true=>exact ha pins s1 Z H1 D I1 q1
 |false=>exact hb pins s1 Z H1 D I1 q1
end
noncomputable abbrev TG:=V->St->Hp->(St->Hp->Prop)->Prop
noncomputable abbrev nZ:=List V->St->Hp->(St->Hp->Prop)->Prop
def PG(X:Cx)(target:Expr)(t:TG):Prop :=
 ∀(pins:List (Addr×Obj)) (s:Shared) (Z:St) (H:Hp) (v:V) (u:Value) (Q:St->Hp->Prop),Inv X pins Z H s->RelV v u->t v Z H Q ->
  wpAny (model X.prog X.w) X.A (assign target X.env u) (λ_ s'=>∃bL H',Inv X pins bL H' s'/\Q bL H') X.xe s
def tX(X:Cx)(ts:List Expr)(t:nZ):Prop :=
 ∀(pins:List (Addr×Obj)) (s:Shared) (Z:St) (H:Hp) (vs:List V) (us:List Value) (Q:St->Hp->Prop),Inv X pins Z H s->Vals vs us->t vs Z H Q ->
  wpAny (model X.prog X.w) X.A (assignInOrder ((assignEach ts X.env).map (·.2)) us) (λ_ s'=>∃bL H',Inv X pins bL H' s'/\Q bL H') X.xe s
noncomputable abbrev Ah:=V->V->V->Hp->(Hp->Prop)->Prop
def Ag(X:Cx)(t:Ah):Prop :=
 ∀(pins:List (Addr×Obj)) (s:Shared) (Z:St) (H:Hp) (o i v:V) (ov iv u:Value) (Q:Hp->Prop),Inv X pins Z H s->RelV o ov->RelV i iv->RelV v u->t o i v H Q ->
  wpAny (model X.prog X.w) X.A (setItem ov iv u) (λ_ s'=>∃H',Inv X pins Z H' s'/\Q H') X.xe s
noncomputable abbrev Au:=V->V->Hp->VK->Prop
def GL(X:Cx)(op:Operator)(t:Au):Prop :=
 ∀(pins:List (Addr×Obj)) (s:Shared) (Z:St) (H:Hp) (x y:V) (v u:Value) (Q:VK),Inv X pins Z H s->RelV x v->RelV y u->t x y H Q ->
  wpAny (model X.prog X.w) X.A (inplaceOp op v u) (EP X pins Z Q) X.xe s
def qq(i:Nat):TG:=λv Z H Q=>Q (Z.set i (some v)) H
theorem Gg(hN:X.N.Nodup)(hi:X.N[i]?=some x)(hx:Loc X.env.scope x)(hf:X.fn x=true\/X.env.scope.names.lookup x=some .local:=by first|exact .inl rfl|exact .inr rfl|assumption):PG X (.Name x pos) (qq i):=by
 intro pins s Z H v u Q I r h;exact wpAny_assign_Name (P1 I hN hi hx r (λs' I'=>⟨_,H,I',h⟩) hf)
def Cf:nZ:=λvs Z H Q=>vs=[]/\Q Z H
def CP(t:TG)(u:nZ):nZ:=λvs Z H Q=>∃v r,vs=v::r/\t v Z H λbL H'=>u r bL H' Q
theorem Nu:tX X [] Cf:=by
 intro pins s Z H vs us Q I r h;obtain⟨e,h⟩:=h;subst e;cases r;exact assignInOrder_nil ⟨Z,H,I,h⟩
theorem Xy{t:TG}{u:nZ}(h1:PG X e t)(h2:tX X es u)(hs:(assignEach (e::es) X.env).map (·.2)=assign e X.env::(assignEach es X.env).map (·.2):=by rfl):tX X (e::es) (CP t u):=by
 intro pins s Z H vs us Q I r h;obtain⟨v,vr,e1,h⟩:=h;subst e1;cases r with
 |cons r rr =>
  rw[hs];refine ud (bS (h1 pins s Z H _ _ _ I r h) λ_ s1 aS=>?_);obtain⟨gT,H1,I1,q1⟩:=aS;exact h2 pins s1 gT H1 _ _ Q I1 rr q1
def Cg(K:PySem.W.Frag)(n:Nat)(t:nZ):TG:=λv Z H Q=>∃a xs,v=.ref a/\gw K H a xs/\xs.length=n/\t xs Z H Q
theorem Fw{t:nZ}{n:Nat}(hc:X.calm=true)(h:tX X es t)(hn:(assignEach es X.env).length=n:=by rfl)(ei:(assignEach es X.env).findIdx? (·.1)=none:=by rfl):PG X (.Tuple es k pos) (Cg X.K n t):=by
 intro pins s Z H v u Q I r hw;obtain⟨a,xs,e1,hq,hl,hw⟩:=hw;subst e1;cases r;obtain⟨aL,rv,ht,hz⟩:=I.tuple hq;refine assign_Tuple_tuple (I.ok.hd hc) ht (by simp[hn,<- hl,rv.length]) ei λh' hx=>?_;have I1:Inv X pins Z H { s with heap:=h' }:=I.kept (t':=s.toks) λb o e=>hx b o (aE (aq e)) e;exact h pins _ Z H xs _ Q I1 (by simpa using rv) hw
def OO(to ti:TE)(t:Ah):TG:=λv Z H Q=>to Z H λo H1=>ti Z H1 λi H2=>t o i v H2 λH3=>Q Z H3
theorem KS{o i:Expr}{to ti:TE}{t:Ah}(ho:PE X o to)(hi:PE X i ti)(hs:Ag X t)(ha:∀ v,assign (.Subscript o i pos) X.env v=(do
   let ov <- holding [v] (eval o X.env)
   let iv <- holding [v,ov] (eval i X.env)
   standAt pos
   holding [v,ov,iv] (setItem ov iv v)
   release [v,ov,iv] []):=by intro _;rfl):PG X (.Subscript o i pos) (OO to ti t):=by
 intro pins s Z H v u Q I r h;rw[ha];refine aa (bj (bS (ho pins s Z H _ I h) λov s1 aS=>?_));obtain⟨x,H1,I1,r1,q1⟩:=aS;refine aa (bj (bS (hi pins s1 Z H1 _ I1 q1) λiv s2 aS=>?_));obtain⟨y,H2,I2,r2,q2⟩:=aS;refine aa (cH (aa (bj (bS (hs pins s2 Z H2 x y v ov iv u _ I2 r1 r2 r q2) λ_ s3 ⟨H3,I3,q3⟩=>?_))));exact wpAny_release ⟨Z,H3,I3,q3⟩
def sP(te:TE)(g:TG):TS:=λD Z H=>te Z H λx H1=>g x Z H1 D.nx
theorem Fx{g:TG}(he:PE X e te)(hg:PG X tg g)(hs:swapsWithSole [tg] e pos.line X.env=pure false:=by rfl)(hw:swappedStores [tg] e X.env=pure none:=by rfl)(h1:(assignEach [tg] X.env).map (·.2)=[assign tg X.env]:=by rfl):PS X (.Assign [tg] e pos) (sP te g):=by
 intro pins s Z H D I h;refine wpAny_Assign_stores (bS (he pins s Z H _ I h) λv s1 aS=>?_) hs hw;obtain⟨x,H1,I1,r1,q1⟩:=aS;rw[h1];exact bS (hg pins s1 Z H1 x v _ I1 r1 q1) λ_ s2 q=>q
theorem Fy(hN:X.N.Nodup)(hi:X.N[i]?=some x)(hx:Loc X.env.scope x)(he:PE X e te)(hs:swapsWith e (some (.Name x pos')) pos.line X.env=pure false:=by rfl)(hf:X.fn x=true\/X.env.scope.names.lookup x=some .local:=by first|exact .inl rfl|exact .inr rfl|assumption) :
  PS X (.Assign [.Name x pos'] e pos) (sP te (qq i)):=by
 intro pins s Z H D I h;refine wpAny_Assign_Name (bS (he pins s Z H _ I h) λv s1 aS=>?_) hs;obtain⟨y,H1,I1,r1,q1⟩:=aS;exact P1 I1 hN hi hx r1 (λs2 I2=>⟨_,H1,I2,q1⟩) hf
def Qj(i j:Nat)(ta:TA):TS:=λD Z H=>ta Z H λvs H1=>∃v w,vs=[v,w]/\D.nx ((Z.set i (some v)).set j (some w)) H1
theorem Lb{y:Str}{a b:Expr}{ta:TA}{px py pt:Pos}{kt k2 nD}(hc:X.calm=true)(hN:X.N.Nodup)(hi:X.N[i]?=some x)(hj:X.N[j]?=some y)(ie:i≠j)(hx:X.env.scope.names.lookup x=some .local)(hy:X.env.scope.names.lookup y=some .local)(ha:PA X [a,b] ta)(hw:swappedStores [.Tuple [.Name x px,.Name y py] kt pt] (.Tuple [a,b] k2 nD) X.env=pure (some [x,y]))(hs:swapsWithSole [.Tuple [.Name x px,.Name y py] kt pt] (.Tuple [a,b] k2 nD) pos.line X.env=pure false:=by rfl) :
  PS X (.Assign [.Tuple [.Name x px,.Name y py] kt pt] (.Tuple [a,b] k2 nD) pos) (Qj i j ta):=by
 intro pins s Z H D I h;rw[exec_Assign_arm];refine aa (cH ?_);rw[hs];refine aa (ai ?_);rw[aD (by decide)];refine aa (Tuple_ (bS (ha _ pins s Z H _ I h) λus s1 aS=>?_));obtain⟨vs,H1,I1,r1,q1⟩:=aS;obtain⟨v,w,e1,q1⟩:=q1;subst e1;obtain⟨u1,u2,rfl,rv,eE⟩:∃u1 u2,us=[u1,u2]/\RelV v u1/\RelV w u2:=by
  cases r1 with
  |cons p q =>
   cases q with
   |cons p' q' =>
    cases q';exact⟨_,_,rfl,p,p'⟩
 refine bz ?_ (by show 2<=sizeLine;decide);have I2:Inv X pins Z H1 { s1 with heap:=s1.heap.push { cls:=.type "tuple",data:=.seq [u1,u2].toArray } }:=I1.kept (t':=s1.toks) λb o e=>ah _ e;rw[hw];refine aa (ai ?_);show wpAny (model X.prog X.w) X.A (do rule "assign.swapped-stores";let items <- unpackItems (.ref s1.heap.objs.size) 2 none;assignInOrder [λv=>bindName X.env y v,λv=>bindName X.env x v] items.reverse;pure Flow.next) _ _ _;refine aa (eM (aa (unpackItems_tuple (items:=#[u1,u2]) (I.ok.hd hc) (IsTup.new s1.heap _) λh' wY=>?_)));have I3:=I2.kept (h':=h') (t':=s1.toks) λb o e=>wY b o (aE (aq e)) e;show wpAny _ _ (assignInOrder [λv=>bindName X.env y v,λv=>bindName X.env x v] [u2,u1] >>= λ_=>pure Flow.next) _ _ _;refine aa (ud (wpAny_bindName (P1 I3 hN hj (.inl hy) eE (λs2 I4=>?_) (.inr hy))));refine ud (wpAny_bindName (P1 I4 hN hi (.inl hx) rv (λs3 I5=>assignInOrder_nil (ai ?_)) (.inr hx)));rw[List.set_comm _ _ (bg ie)] at I5;exact⟨_,H1,I5,q1⟩
def Qa(i:Nat)(te:TE)(ti:Au):TS:=λD Z H=>∃x,Z[i]?=some (some x)/\te Z H λy H1=>ti x y H1 λz H2=>D.nx (Z.set i (some z)) H2
theorem KY{op:Operator}{ti:Au}(hN:X.N.Nodup)(hi:X.N[i]?=some x)(hx:Loc X.env.scope x)(he:PE X e te)(ho:GL X op ti)(hf:X.fn x=true\/X.env.scope.names.lookup x=some .local:=by first|exact .inl rfl|exact .inr rfl|assumption) :
  PS X (.AugAssign (.Name x pos') op e pos) (Qa i te ti):=by
 intro pins s Z H D I h;obtain⟨v,e1,h⟩:=h;obtain⟨m,hn,hl⟩:=I.loc;have oq:tT X.env.scope x:=by rcases hx with k|k;exact .inl k;exact .inr (.inl k)
 obtain⟨u,r,l⟩:=hl i x v hi e1 oq;refine wpAny_AugAssign_Name ?_;have go:wpAny (model X.prog X.w) X.A (eval e X.env) (λw eJ=>wpAny (model X.prog X.w) X.A (inplaceOp op u w) (λr cY=>wpAny (model X.prog X.w) X.A (storeName X.env x r) (λ_=>SP X pins D .next) X.xe cY) X.xe eJ) X.xe s:=by
  refine bS (he pins s Z H _ I h) λw s1 aS=>?_;obtain⟨y,H1,I1,r1,q1⟩:=aS;refine bS (ho pins s1 Z H1 v y u w _ I1 r r1 q1) λz s2 aS=>?_;obtain⟨zv,H2,I2,r2,q2⟩:=aS;exact P1 I2 hN hi hx r2 (λs3 I3=>⟨_,H2,I3,q2⟩) hf
 rcases l with⟨hk,hm⟩|⟨hk,c,hc,jZ⟩
 ·exact wpAny_loadName_local I.ok.kind hk hn hm go
 ·rcases hk with hk|hk
  ·exact wpAny_loadName_cell I.ok.kind hk hc jZ go
  ·rcases hx with k|k
   ·have:X.env.scope.names.lookup x=some .free:=hk;rw[k] at this;cases this
   ·have:X.env.scope.names.lookup x=some .free:=hk;rw[k] at this;cases this
def Md(c:TT)(tb:TS):TS:=λD Z H=>∃W:Nat->St->Hp->Prop,(∃m,W m Z H)/\∀m Z H,W m Z H ->
 c Z H λb H1=>if b=true then ∃N:St->Hp->Prop,(∀bL H',N bL H'->∃m',m'<m/\W m' bL H')/\tb { D with nx:=N,ct:=N,bk:=D.nx } Z H1 else D.nx Z H1
theorem XE{tc:TT}{tb:TS}(hp:PassesOwn (model X.prog X.w) X.A X.env X.xe)(hc:PT X c tc)(hb:ij X body tb):PS X (.While c body [] pos) (Md tc tb):=by
 intro pins s Z H D I h;obtain⟨W,⟨m0,w0⟩,turn⟩:=h;refine wpAny_While (codeAny_whileLoop (λn s'=>∃bL H',Inv X pins bL H' s'/\W n bL H') ?_ m0 ⟨Z,H,I,w0⟩);rintro n s1 ⟨gT,H1,I1,w1⟩;refine dt hp (bS (hc pins s1 gT H1 _ I1 (turn n gT H1 w1)) λb s2 ⟨H2,I2,q2⟩=>?_);cases b with
 |true =>
  obtain⟨N,hN,q2⟩:=q2;rw[aK rfl];refine dt hp (bS (hb pins s2 gT H2 _ I2 q2) λf s3 q3=>?_);cases f with
  |next =>
   obtain⟨gA,H3,I3,n3⟩:=q3;obtain⟨m',hm,w3⟩:=hN gA H3 n3;exact⟨m',hm,gA,H3,I3,w3⟩
  |cont =>
   obtain⟨gA,H3,I3,n3⟩:=q3;obtain⟨m',hm,w3⟩:=hN gA H3 n3;exact⟨m',hm,gA,H3,I3,w3⟩
  |brk=>exact q3
  |ret v=>exact q3
 |false =>
  rw[aD bu];exact jb ⟨gT,H2,I2,q2⟩
structure It where
 go:Nat->Hp->Prop
 mM:Nat->Hp->V->Hp->Prop
 stop:Nat->Hp->Prop
def p9(X:Cx)(pins:List (Addr×Obj))(H:Hp)(b:Addr):Prop :=
 H b=none/\b≠X.env.locals/\b∉X.fs/\(b∈X.ex\/X.cR.heap.objs.size<=b)/\(∀x c,X.env.cells.lookup x=some c->c≠b)/\∀p∈X.pn++pins,p.1≠b
theorem Inv.Y8(I:Inv X pins Z H s)(hb:s.heap.objs.size<=b)(hn:H' b=none):p9 X pins H' b:=by
 refine⟨hn,bp (ak I.lt hb),I.pB hb,.inr (aI I.sz hb),λx c e z=>?_,λp hp z=>?_⟩
 ·obtain⟨v,q⟩:=I.cell x c e;exact absurd (ak q.lt (by rw[z];exact hb)) (aX _)
 ·exact absurd (ak (aq (I.pin p hp).1) (by rw[z];exact hb)) (aX _)
structure Turn(P:Program)(w:World)(K:PySem.W.Frag)(tg:Expr)(J:It)(fp:List Addr)(it:Addr)(tn:Nat->Heap->Prop):Prop where
 mem:it∈fp
 obj:∀i h,tn i h->∀b∈fp,∃o,h.get? b=some o/\∀v,o.data≠.cell v
 keep:∀i h h',tn i h->(∀b∈fp,∀o,h.get? b=some o->h'.get? b=some o)->tn i h'
 item:∀(X:Cx),X.prog=P->X.w=w->X.K=K->X.calm=true->∀(i:Nat) (pins:List (Addr×Obj)) (s:Shared) (Z:St) (H:Hp) (E:Value->Shared->Prop),Inv X pins Z H s->(∀b∈fp,p9 X pins H b)->tn i s.heap->J.go i H ->
  wpAny (model P w) X.A (pyNext (.ref it)) (λr s1=>∃ u,r=some u /\
   wpAny (model P w) X.A (letOwnedTupleGo tg (.ref it) u) (λ_ s2=>∃ x H',Inv X pins Z H' s2/\RelV x u/\J.mM i H x H'/\tn (i + 1) s2.heap/\∀ b ∈ fp,H' b=none) E s1) E s
 done:∀(X:Cx),X.prog=P->X.w=w->X.K=K->X.calm=true->∀(i:Nat) (pins:List (Addr×Obj)) (s:Shared) (Z:St) (H:Hp) (E:Value->Shared->Prop),Inv X pins Z H s->(∀b∈fp,p9 X pins H b)->tn i s.heap->J.stop i H ->
  wpAny (model P w) X.A (pyNext (.ref it)) (λr s1=>r=none/\Inv X pins Z H s1) E s
 self:∀(A:Around) (i:Nat) (s:Shared) (Q:Value->Shared->Prop) (E:Value->Shared->Prop),tn i s.heap->Q (.ref it) s->wpAny (model P w) A (pyIter (.ref it)) Q E s
noncomputable abbrev TI:=St->Hp->(It->Hp->Prop)->Prop
def GN(X:Cx)(pins:List (Addr×Obj))(Z:St)(tg:Expr)(R:It->Hp->Prop)(pP:Value)(s2:Shared):Prop :=
 ∃(it:Addr) (fp:List Addr) (tn:Nat->Heap->Prop) (J:It) (H':Hp),pP=.ref it/\Inv X pins Z H' s2/\Turn X.prog X.w X.K tg J fp it tn/\tn 0 s2.heap/\(∀b∈fp,p9 X pins H' b)/\R J H'
def PI(X:Cx)(tg iter:Expr)(wi:TI):Prop :=
 ∀(pins:List (Addr×Obj)) (s:Shared) (Z:St) (H:Hp) (R:It->Hp->Prop),Inv X pins Z H s->wi Z H R ->
  wpAny (model X.prog X.w) X.A (eval iter X.env) (λv s1=>wpAny (model X.prog X.w) X.A (pyIter v) (GN X pins Z tg R) X.xe s1) X.xe s
theorem uV{it:Addr}{o:Obj}{n:String}{vs:Array Value}{Q:Unit->Shared->Prop}(ho:s.heap.get? it=some o)(hc:o.cls=.type n)(hd:o.data=.fields vs)(hn:["enumerate","zip","dict_itemiterator","dict_reverseitemiterator","odict_iterator","itertools.zip_longest","itertools.pairwise"].contains n=false)(hQ:Q () s):wpAny M A (letOwnedTupleGo tg (.ref it) u) Q E s:=by
  unfold letOwnedTupleGo;cases tg<;>first
    |exact ai hQ
    | (cases u <;> first
        |exact ai hQ
        | (refine aa (wpAny_load ho ?_)
           rw[hc,hd];show wpAny M A (if(["enumerate","zip","dict_itemiterator","dict_reverseitemiterator","odict_iterator","itertools.zip_longest","itertools.pairwise"].contains n&&vs[0]?==some (rawInt _))=true then _ else _) Q E s;rw[aD (by intro h;rw[hn,mL] at h;cases h)];exact ai hQ))
def Ax(K:PySem.W.Frag)(a:Addr):It :=
 ⟨λi H=>∃xs x,eT K H a xs/\xs[i]?=some x,λi H x H'=>H'=H/\∀xs,eT K H a xs->xs[i]?=some x,λi H=>∃xs,eT K H a xs/\xs.length<=i⟩
def Aw(K:PySem.W.Frag)(a:Addr):It :=
 ⟨λi H=>∃xs x,gw K H a xs/\xs[i]?=some x,λi H x H'=>H'=H/\∀xs,gw K H a xs->xs[i]?=some x,λi H=>∃xs,gw K H a xs/\xs.length<=i⟩
def tZ(lo:Int)(n:Nat):It:=⟨λi _=>i<n,λi H x H'=>H'=H/\x=.int (lo+i),λi _=>n<=i⟩
theorem UP(a it:Addr):Turn P w K tg (Ax K a) [it] it (λi h=>h.IsListIter it a i) where
 mem:=by simp
 obj:=λi h st b hb=>by
  have e:b=it:=by simpa using hb
  subst e;obtain⟨o,e,c,d⟩:=st;exact⟨o,e,λv z=>by rw[d] at z;cases z⟩
 keep:=λi h h' st k=>st.at λo e=>k it (by simp) o e
 item:=by
  intro X hP hw hK hc i pins s Z H E I hf st hg;subst hP hw hK;obtain⟨xs,x,hq,hx⟩:=hg;obtain⟨aL,rv,p,hz⟩:=I.list hq;obtain⟨u,hu,ru⟩:=rv.get hx;obtain⟨f0,f1,f2,f3,f4,f5⟩:=hf it (by simp);refine wpAny_pyNext_list_item st p.isList (x:=u) (by simpa using hu) λh' ko sb=>?_;have I1:Inv X pins Z H { s with heap:=h' }:=I.turned (t':=s.toks) (λb o hb e=>(sb.2 b hb).trans e) f0 f1 f3 f4 f5;obtain⟨o,e,c,d⟩:=id ko;exact⟨u,rfl,uV (s:={ s with heap:=h' }) e c d (by decide) ⟨x,H,I1,ru,⟨rfl,λys hy=>by rw[I.zb hy hq];exact hx⟩,ko,λb hb=>(hf b hb).1⟩⟩
 done:=by
  intro X hP hw hK hc i pins s Z H E I hf st hg;subst hP hw hK;obtain⟨xs,hq,hx⟩:=hg;obtain⟨aL,rv,p,hz⟩:=I.list hq;obtain⟨f0,f1,f2,f3,f4,f5⟩:=hf it (by simp);have hl:=rv.length;exact wpAny_pyNext_list_end (I.ok.hd hc) st p.isList (by simp;omega) λh' eb=>⟨rfl,I.turned (t':=s.toks) (λb o hb e=>eb b o hb e) f0 f1 f3 f4 f5⟩
 self:=λ_ _ _ _ _ st h=>wpAny_pyIter_listiter st h
theorem VE(a it:Addr):Turn P w K tg (Aw K a) [it] it (λi h=>h.IsTupleIter it a i) where
 mem:=by simp
 obj:=λi h st b hb=>by
  have e:b=it:=by simpa using hb
  subst e;obtain⟨o,e,c,d⟩:=st;exact⟨o,e,λv z=>by rw[d] at z;cases z⟩
 keep:=λi h h' st k=>st.at λo e=>k it (by simp) o e
 item:=by
  intro X hP hw hK hc i pins s Z H E I hf st hg;subst hP hw hK;obtain⟨xs,x,hq,hx⟩:=hg;obtain⟨aL,rv,p,hz⟩:=I.tuple hq;obtain⟨u,hu,ru⟩:=rv.get hx;obtain⟨f0,f1,f2,f3,f4,f5⟩:=hf it (by simp);refine wpAny_pyNext_tuple_item st (show s.heap.IsTuple a aL.toArray from p) (x:=u) (by simpa using hu) λh' ko sb=>?_;have I1:Inv X pins Z H { s with heap:=h' }:=I.turned (t':=s.toks) (λb o hb e=>(sb.2 b hb).trans e) f0 f1 f3 f4 f5;obtain⟨o,e,c,d⟩:=id ko;exact⟨u,rfl,uV (s:={ s with heap:=h' }) e c d (by decide) ⟨x,H,I1,ru,⟨rfl,λys hy=>by rw[I.UM hy hq];exact hx⟩,ko,λb hb=>(hf b hb).1⟩⟩
 done:=by
  intro X hP hw hK hc i pins s Z H E I hf st hg;subst hP hw hK;obtain⟨xs,hq,hx⟩:=hg;obtain⟨aL,rv,p,hz⟩:=I.tuple hq;obtain⟨f0,f1,f2,f3,f4,f5⟩:=hf it (by simp);have hl:=rv.length;exact wpAny_pyNext_tuple_end (I.ok.hd hc) st (show s.heap.IsTuple a aL.toArray from p) (by simp;omega) λh' eb=>⟨rfl,I.turned (t':=s.toks) (λb o hb e=>eb b o hb e) f0 f1 f3 f4 f5⟩
 self:=λ_ _ _ _ _ st h=>wpAny_pyIter_tupleiter st h
theorem VC(it:Addr)(lo:Int)(n:Nat):Turn P w K tg (tZ lo n) [it] it (λi h=>IsRangeIter h it (lo+(i:Nat)*1) ((n:Int)-(i:Nat)) 1) where
 mem:=by simp
 obj:=λi h st b hb=>by
  have e:b=it:=by simpa using hb
  subst e;exact ⟨_,st,λv z=>by
   have z':Data.fields _=Data.cell v:=z;cases z'⟩
 keep:=λi h h' st k=>k it (by simp) _ st
 item:=by
  intro X hP hw hK hc i pins s Z H E I hf st hg;subst hP hw hK;obtain⟨f0,f1,f2,f3,f4,f5⟩:=hf it (by simp);have W:=Walks.range (prog:=X.prog) (w:=X.w) (I.ok.hd hc) it lo 1 n;refine W.item i s _ _ hg st λv h' tk hv ko kk=>?_;obtain⟨t,rfl⟩:=hv;have I1:Inv X pins Z H { s with heap:=h',toks:=tk }:=I.turned (λb o hb e=>kk b o (by simpa using hb) e) f0 f1 f3 f4 f5;refine⟨_,rfl,uV (s:={ s with heap:=h',toks:=tk }) (n:="range_iterator") ko rfl rfl (by decide) ⟨.int (lo+i),H,I1,⟨t,?_⟩,⟨rfl,rfl⟩,ko,λb hb=>(hf b hb).1⟩⟩;rw[Int.mul_one]
 done:=by
  intro X hP hw hK hc i pins s Z H E I hf st hg;subst hP hw hK;obtain⟨f0,f1,f2,f3,f4,f5⟩:=hf it (by simp);exact wpAny_pyNext_range_end (I.ok.hd hc) st (by have:n<=i:=hg;omega) λh' eb=>⟨rfl,I.turned (t':=s.toks) (λb o hb e=>eb b o hb e) f0 f1 f3 f4 f5⟩
 self:=λ_ _ _ _ _ st h=>wpAny_pyIter_rangeiter st h
theorem Dy{R:It->Hp->Prop}{lo hi:Int}{t u v:Tok}{tk:Nat}(I:Inv X pins Z H s)(h1:-(2 ^ 62)<=lo)(h2:lo<2 ^ 62)(h3:-(2 ^ 62)<=hi)(h4:hi<2 ^ 62)(q:R (tZ lo (hi-lo).toNat) H):wpAny (model X.prog X.w) X.A (pyIter (.ref s.heap.objs.size)) (GN X pins Z tg R) E { s with heap:=s.heap.push { cls:=.type "range",data:=.fields #[.int lo t,.int hi u,.int 1 v] },toks:=tk }:=by
 refine wpAny_pyIter_range (IsRange.new ..) (small_one h1 h2 h3 h4) ?_;have I1:Inv X pins Z H { s with heap:=s.heap.push { cls:=.type "range",data:=.fields #[.int lo t,.int hi u,.int 1 v] },toks:=tk }:=I.kept λb o e=>ah _ e;refine ⟨(s.heap.push { cls:=.type "range",data:=.fields #[.int lo t,.int hi u,.int 1 v] }).objs.size,[(s.heap.push { cls:=.type "range",data:=.fields #[.int lo t,.int hi u,.int 1 v] }).objs.size],_,_,H,rfl,
  I1.kept (t':=tk) λb o e=>ah _ e,VC _ lo (hi - lo).toNat,?_,λb hb=>?_,q⟩
 ·have e1:lo+((0:Nat):Int)*1=lo:=by simp
  have e2:(((hi-lo).toNat:Nat):Int)-((0:Nat):Int)=Builtin.Range.rangeSize lo hi 1:=by rw[rangeSize_one];split<;>omega
  show IsRangeIter _ _ (lo+((0:Nat):Int)*1) ((((hi-lo).toNat:Nat):Int)-((0:Nat):Int)) 1;rw[e1,e2];exact au _ rfl
 ·have e:b=(s.heap.push { cls:=.type "range",data:=.fields #[.int lo t,.int hi u,.int 1 v] }).objs.size:=by simpa using hb
  subst e;exact I1.Y8 (aj _) (I1.br.fresh (aj _))
def QT(ta:TA):TI:=λZ H R=>ta Z H λvs H1=>∃j:Int,vs=[.int j]/\-(2 ^ 62)<=j/\j<2 ^ 62/\R (tZ 0 j.toNat) H1
def QU(ta:TA):TI:=λZ H R=>ta Z H λvs H1=>∃i j:Int,vs=[.int i,.int j]/\(-(2 ^ 62)<=i/\i<2 ^ 62/\-(2 ^ 62)<=j/\j<2 ^ 62)/\R (tZ i (j-i).toNat) H1
theorem Uz{a:Expr}{ta:TA}(hg:Gl X "range")(hm:X.mg "range"=none)(ha:PA X [a] ta)(hs:starEach [a] X.env=[(false,eval a X.env)]:=by rfl):PI X tg (.Call (.Name "range" p) [a] [] pos) (QT ta):=by
 intro pins s Z H R I h;refine Call_ (K6 I hg hm boot_range (bB (bS (ha pos pins s Z H _ I h) λus s1 aS=>?_) hs rfl));obtain⟨vs,H1,I1,r1,q1⟩:=aS;obtain⟨j,e,q1,q2,q⟩:=q1;subst e;cases r1 with
 |cons r rr =>
  cases rr;obtain⟨t,rfl⟩:=r;exact call_range_1 (Dy I1 (by omega) (by omega) q1 q2 (by simpa using q))
theorem UA{a b:Expr}{ta:TA}(hg:Gl X "range")(hm:X.mg "range"=none)(ha:PA X [a,b] ta)(hs:starEach [a,b] X.env=[(false,eval a X.env),(false,eval b X.env)]:=by rfl)(gC:starEach [b] X.env=[(false,eval b X.env)]:=by rfl) :
  PI X tg (.Call (.Name "range" p) [a,b] [] pos) (QU ta):=by
 intro pins s Z H R I h;refine Call_ (K6 I hg hm boot_range (bB (bS (ha pos pins s Z H _ I h) λus s1 aS=>?_) (by rw[hs,gC]) (by rw[gC];rfl)));obtain⟨vs,H1,I1,r1,q1⟩:=aS;obtain⟨i,j,e,⟨q1,q2,q3,q4⟩,q⟩:=q1;subst e;cases r1 with
 |cons r rr =>
  cases rr with
  |cons r' rr =>
   cases rr;obtain⟨t,rfl⟩:=r;obtain⟨t',rfl⟩:=r';exact call_range_2 (Dy I1 q1 q2 q3 q4 q)
def Qe(wi:TI)(g:TG)(tb:TS):TS:=λD Z H=>wi Z H λJ H1=>∃W:Nat->Nat->St->Hp->Prop,(∃m,W 0 m Z H1)/\∀i m Z H,W i m Z H ->
 (J.stop i H/\D.nx Z H)\/(J.go i H/\∃N:St->Hp->Prop,(∀bL H',N bL H'->∃m',m'<m/\W (i+1) m' bL H')/\∀x H',J.mM i H x H'->g x Z H' λcj H2=>tb { D with nx:=N,ct:=N,bk:=D.nx } cj H2)
def P7(fp:List Addr)(h:Heap):List (Addr×Obj):=fp.filterMap λb=>(h.get? b).map λo=>(b,o)
theorem J8{o:Obj}(hb:b∈fp)(e:h.get? b=some o):(b,o)∈P7 fp h:=jk.mpr ⟨b,hb,by rw[e];rfl⟩
theorem Uq{p:Addr×Obj}(hp:p∈P7 fp h):p.1∈fp/\h.get? p.1=some p.2:=by
 obtain⟨b,hb,e⟩:=jk.mp hp;cases q:h.get? b with
 |none=>rw[q] at e;cases e
 |some o =>
  rw[q] at e;have e':(b,o)=p:=aB e;subst e';exact⟨hb,q⟩
theorem Inv.pinned(I:Inv X pins Z H s)(hf:∀b∈fp,p9 X pins H b)(ho:∀b∈fp,∃o,s.heap.get? b=some o/\∀v,o.data≠.cell v):Inv X (pins++P7 fp s.heap) Z H s :=
 I.w9 λp hp=>(dS.mp hp).elim (λz=>I.pin p (aU _ z)) λz=>by
  obtain⟨hb,e⟩:=Uq z;obtain⟨f0,f1,f2,_⟩:=hf p.1 hb;obtain⟨o,e',d⟩:=ho p.1 hb;rw[e] at e';cases e';exact⟨e,f0,f1,f2,d⟩
theorem Inv.zi{pl:List (Addr×Obj)}(I:Inv X (pins++pl) Z H s):Inv X pins Z H s:=I.w9 λp hp=>I.pin p (aU _ (cM _ hp))
theorem La{iter:Expr}{wi:TI}{g:TG}{tb:TS}(hp:PassesOwn (model X.prog X.w) X.A X.env X.xe)(hc:X.calm=true)(hi:PI X tg iter wi)(hg:PG X tg g)(hb:ij X body tb)(hs:∀x,foldedSetIterable iter X.env x=pure x:=by intro _;rfl):PS X (.For tg iter body [] pos) (Qe wi g tb):=by
 intro pins s Z H D I h;refine wpAny_For (bS (hi pins s Z H _ I h) λv s1 h1=>bS h1 λpP s2 h2=>?_) hs;obtain⟨it,fp,tn,J,H2,e,I2,T,iP,f2,W,⟨m0,w0⟩,turn⟩:=h2;subst e;have ox:∀{H':Hp},(∀b∈fp,H' b=none)->∀b∈fp,p9 X pins H' b:=λhn b hb=>⟨hn b hb,(f2 b hb).2⟩
 refine codeAny_forLoop_any (λn s'=>∃i bL H',Inv X pins bL H' s'/\tn i s'.heap/\(∀b∈fp,H' b=none)/\W i n bL H') ?_ m0 ⟨0,Z,H2,I2,iP,λb hb=>(f2 b hb).1,w0⟩;rintro n s3 ⟨i,gA,H3,I3,lp,lT,w3⟩;rcases turn i n gA H3 w3 with⟨stop,qn⟩|⟨go,N,hN,step⟩
 ·refine dt hp (bS (T.done X rfl rfl rfl hc i pins s3 gA H3 X.xe I3 (ox lT) lp stop) λr s4 ⟨hr,I4⟩=>?_);subst hr;exact jb ⟨gA,H3,I4,qn⟩
 ·refine dt hp (bS (T.item X rfl rfl rfl hc i pins s3 gA H3 X.xe I3 (ox lT) lp go) λr s4 ⟨u,hr,h4⟩=>?_);subst hr;refine dt hp (bS h4 λ_ s5 aS=>?_);obtain⟨x,H5,I5,r5,y5,jL,oX⟩:=aS;have pH:=I5.pinned (ox oX) (T.obj _ _ jL);refine dt hp (bS (hg _ s5 gA H5 x u _ pH r5 (step x H5 y5)) λ_ s6 aS=>?_);obtain⟨iB,H6,I6,q6⟩:=aS;refine dt hp (bS (hb _ s6 iB H6 _ I6 q6) λf s7 q7=>?_);have again:∀{lj:St} {H7:Hp},Inv X (pins++P7 fp s5.heap) lj H7 s7->N lj H7->∃m,m<n/\∃i bL H',Inv X pins bL H' s7/\tn i s7.heap/\(∀b∈fp,H' b=none)/\W i m bL H':=λ{lj H7} I7 n7=>by
   obtain⟨m',hm,w7⟩:=hN lj H7 n7;refine⟨m',hm,i+1,lj,H7,I7.zi,T.keep _ _ _ jL λb hb o e=>(I7.pin (b,o) (aU _ (aU _ (J8 hb e)))).1,λb hb=>?_,w7⟩;obtain⟨o,e,d⟩:=T.obj _ _ jL b hb;exact(I7.pin (b,o) (aU _ (aU _ (J8 hb e)))).2.1
  cases f with
  |next=>obtain⟨lj,H7,I7,n7⟩:=q7;exact again I7 n7
  |cont=>obtain⟨lj,H7,I7,n7⟩:=q7;exact again I7 n7
  |brk=>obtain⟨lj,H7,I7,q7⟩:=q7;exact⟨lj,H7,I7.zi,q7⟩
  |ret v=>obtain⟨x7,lj,H7,I7,r7,q7⟩:=q7;exact⟨x7,lj,H7,I7.zi,r7,q7⟩
noncomputable abbrev R2:=V->V->Hp->VK->Prop
def eY(X:Cx)(f:Value->Value->Sem Value)(r:R2):Prop :=
 ∀(pins:List (Addr×Obj)) (s:Shared) (Z:St) (H:Hp) (x y:V) (v u:Value) (Q:VK),Inv X pins Z H s->RelV x v->RelV y u->r x y H Q ->
  wpAny (model X.prog X.w) X.A (f v u) (EP X pins Z Q) X.xe s
def vS(X:Cx)(f:Value->Sem Value)(r:V->Hp->VK->Prop):Prop :=
 ∀(pins:List (Addr×Obj)) (s:Shared) (Z:St) (H:Hp) (x:V) (v:Value) (Q:VK),Inv X pins Z H s->RelV x v->r x H Q ->
  wpAny (model X.prog X.w) X.A (f v) (EP X pins Z Q) X.xe s
def j5(X:Cx)(f:Value)(r:List V->Hp->VK->Prop):Prop :=
 ∀(pins:List (Addr×Obj)) (s:Shared) (Z:St) (H:Hp) (xs:List V) (us:List Value) (Q:VK),Inv X pins Z H s->Vals xs us->r xs H Q ->
  wpAny (model X.prog X.w) X.A (call f us) (EP X pins Z Q) X.xe s
def Ow(X:Cx)(r:V->Hp->(Bool->Hp->Prop)->Prop):Prop :=
 ∀(pins:List (Addr×Obj)) (s:Shared) (Z:St) (H:Hp) (x:V) (v:Value) (Q:Bool->Hp->Prop),Inv X pins Z H s->RelV x v->r x H Q ->
  wpAny (model X.prog X.w) X.A (truthy v) (TP X pins Z Q) X.xe s
def nz(r:R2)(ta tb:TE):TE:=λZ H Q=>ta Z H λx H1=>tb Z H1 λy H2=>r x y H2 Q
def Hg(r:V->Hp->VK->Prop)(ta:TE):TE:=λZ H Q=>ta Z H λx H1=>r x H1 Q
def rI(C:Int->Int->Prop)(g:Int->Int->V):R2:=λx y H Q=>∃i j,x=.int i/\y=.int j/\C i j/\Q (g i j) H
def kQ(g:Int->Int->V):R2:=λx y H Q=>∃i j,x=.int i/\y=.int j/\Q (g i j) H
def rU(g:Int->V):V->Hp->VK->Prop:=λx H Q=>∃i,x=.int i/\Q (g i) H
section
variable{a b:Expr}
theorem Aj(ha:PE X a ta)(hb:PE X b tb){R:V->V->Hp->Prop}(I:Inv X pins Z H s)(h:ta Z H λx H1=>tb Z H1 λy H2=>R x y H2){f:Value->Value->Sem Value}(hf:∀v u s2 x y H2,Inv X pins Z H2 s2->RelV x v->RelV y u->R x y H2->wpAny (model X.prog X.w) X.A (f v u) Q X.xe s2) :
  wpAny (model X.prog X.w) X.A (eval a X.env) (λv bx=>wpAny (model X.prog X.w) X.A (eval b X.env) (λu eJ=>wpAny (model X.prog X.w) X.A (f v u) Q X.xe eJ) X.xe bx) X.xe s:=by
 refine bS (ha pins s Z H _ I h) λv s1 aS=>?_;obtain⟨x,H1,I1,r1,q1⟩:=aS;refine bS (hb pins s1 Z H1 _ I1 q1) λu s2 aS=>?_;obtain⟨y,H2,I2,r2,q2⟩:=aS;exact hf v u s2 x y H2 I2 r1 r2 q2
theorem RG{op:Operator}(ho:eY X (binaryOp op) r)(ha:PE X a ta)(hb:PE X b tb):PE X (.BinOp a op b pos) (nz r ta tb):=by
 intro pins s Z H Q I h;exact wpAny_BinOp (Aj ha hb I h λv u s2 x y H2 I2 rx ry q=>ho pins s2 Z H2 x y v u Q I2 rx ry q)
theorem RI{op:UnaryOp}{r:V->Hp->VK->Prop}(ho:vS X (unaryOp op) r)(ha:PE X a ta):PE X (.UnaryOp op a pos) (Hg r ta):=by
 intro pins s Z H Q I h;exact UnaryOp_ (bS (ha pins s Z H _ I h) λv s1 ⟨x,H1,I1,r1,q1⟩=>ho pins s1 Z H1 x v Q I1 r1 q1)
theorem qP{f:Value->Value->Sem Value}{C:Int->Int->Prop}{g:Int->Int->Int}(rule:∀(i j:Int) (t u:Tok) (s:Shared) (Q:Value->Shared->Prop) (E:Value->Shared->Prop),C i j->Q (.int (g i j) s.toks) { s with toks:=s.toks+1 }->wpAny (model X.prog X.w) X.A (f (.int i t) (.int j u)) Q E s) :
  eY X f (rI C λi j=>.int (g i j)):=by
 intro pins s Z H x y v u Q I rx ry h;obtain⟨i,j,rfl,rfl,hc,q⟩:=h;obtain⟨t,rfl⟩:=rx;obtain⟨t',rfl⟩:=ry;exact rule i j t t' s _ _ hc ⟨.int (g i j),H,I.tok _,⟨_,rfl⟩,q⟩
theorem qh{f:Value->Value->Sem Value}{g:Int->Int->Int}(rule:∀(i j:Int) (t u:Tok) (s:Shared) (Q:Value->Shared->Prop) (E:Value->Shared->Prop),Q (.int (g i j) s.toks) { s with toks:=s.toks+1 }->wpAny (model X.prog X.w) X.A (f (.int i t) (.int j u)) Q E s) :
  eY X f (kQ λi j=>.int (g i j)):=by
 intro pins s Z H x y v u Q I rx ry h;obtain⟨i,j,rfl,rfl,q⟩:=h;obtain⟨t,rfl⟩:=rx;obtain⟨t',rfl⟩:=ry;exact rule i j t t' s _ _ ⟨.int (g i j),H,I.tok _,⟨_,rfl⟩,q⟩
theorem vP{f:Value->Value->Sem Value}{g:Int->Int->Bool}(rule:∀(i j:Int) (t u:Tok) (s:Shared) (Q:Value->Shared->Prop) (E:Value->Shared->Prop),Q (.bool (g i j)) s->wpAny (model X.prog X.w) X.A (f (.int i t) (.int j u)) Q E s) :
  eY X f (kQ λi j=>.bl (g i j)):=by
 intro pins s Z H x y v u Q I rx ry h;obtain⟨i,j,rfl,rfl,q⟩:=h;obtain⟨t,rfl⟩:=rx;obtain⟨t',rfl⟩:=ry;exact rule i j t t' s _ _ ⟨.bl (g i j),H,I,rfl,q⟩
def Ae(i j:Int):Prop:=0<j/\j<1073741824
def Z7(i j:Int):Prop:=0<=j/\j<=1000000/\i.natAbs<2 ^ 64
def ph(i j:Int):Prop:=(-(2 ^ 64)<i/\i<2 ^ 64)\/(-(2 ^ 64)<j/\j<2 ^ 64)
theorem ph.ok{i j:Int}(h:ph i j):IntMulOk i j:=by
 rcases h with⟨h1,h2⟩|⟨h1,h2⟩
 ·exact .of_left (intBits_le_64 h1 h2)
 ·exact .of_right (intBits_le_64 h1 h2)
theorem Kr:eY X (binaryOp .Add) (kQ λi j=>.int (i+j)):=qh λ_ _ _ _ _ _ _ q=>add_int q
theorem KC:eY X (binaryOp .Sub) (kQ λi j=>.int (i-j)):=qh λ_ _ _ _ _ _ _ q=>sub_int q
theorem Kx:eY X (binaryOp .Mult) (rI ph λi j=>.int (i*j)):=qP λ_ _ _ _ _ _ _ hc q=>mul_int q hc.ok
theorem Nf:eY X (binaryOp .FloorDiv) (rI Ae λi j=>.int (i / j)):=qP λi j _ _ _ _ _ hc q=>by
 have h1:(0:Int)<j:=hc.1;have h2:j<1073741824:=hc.2;exact floordiv_int (by omega) (by rw[Int.fdiv_eq_ediv_of_nonneg i (by omega)];exact q) (.inl (PyProof.noPylong_small (by omega)))
theorem Kw:eY X (binaryOp .Mod) (rI (λ_ j=>0<j) λi j=>.int (i % j)):=qP λi j _ _ _ _ _ hc q=>by
 have h1:(0:Int)<j:=hc;exact mod_int' (by omega) (by rw[Int.fmod_eq_emod_of_nonneg i (by omega)];exact q)
theorem Ky:eY X (binaryOp .Pow) (rI Z7 λi j=>.int (i ^ j.toNat)):=qP λ_ _ _ _ _ _ _ hc q=>pow_int_small hc.1 hc.2.1 hc.2.2 q
theorem KA:eY X (binaryOp .LShift) (rI Z7 λi j=>.int (i*2 ^ j.toNat)):=qP λ_ _ _ _ _ _ _ hc q=>lshift_int_small hc.1 hc.2.1 hc.2.2 q
theorem Ks:eY X (binaryOp .BitAnd) (kQ λi j=>.int (Builtin.bitAnd i j)):=qh λ_ _ _ _ _ _ _ q=>and_int q
theorem RA:eY X (binaryOp .BitOr) (kQ λi j=>.int (Builtin.bitOr i j)):=qh λ_ _ _ _ _ _ _ q=>or_int q
theorem MH:eY X (inplaceOp .Add) (kQ λi j=>.int (i+j)):=qh λ_ _ _ _ _ _ _ q=>iadd_int q
theorem MI:eY X (inplaceOp .Sub) (kQ λi j=>.int (i-j)):=qh λ_ _ _ _ _ _ _ q=>isub_int q
theorem Hf{f:Value->Sem Value}{g:Int->Int}(rule:∀(i:Int) (t:Tok) (s:Shared) (Q:Value->Shared->Prop) (E:Value->Shared->Prop),Q (.int (g i) s.toks) { s with toks:=s.toks+1 }->wpAny (model X.prog X.w) X.A (f (.int i t)) Q E s) :
  vS X f (rU λi=>.int (g i)):=by
 intro pins s Z H x v Q I rx h;obtain⟨i,rfl,q⟩:=h;obtain⟨t,rfl⟩:=rx;exact rule i t s _ _ ⟨.int (g i),H,I.tok _,⟨_,rfl⟩,q⟩
theorem Mi:vS X (unaryOp .USub) (rU λi=>.int (-i)):=Hf λ_ _ _ _ _ q=>neg_int q
end
def Cq:V->V->Bool
 |.bc,.bc=>true|.bc,.int _=>true|.int _,.bc=>true|.bc,.bl _=>true|.bl _,.bc=>true|.bc,.str _=>true|.str _,.bc=>true
 |.int _,.int _=>true|.bl _,.bl _=>true|.str _,.str _=>true|.kd _,.kd _=>true
 |.int _,.str _=>true|.str _,.int _=>true|.bl _,.str _=>true|.str _,.bl _=>true
 |_,_=>false
def Hu:R2:=λx y H Q=>Cq x y=true/\Q (.bl (decide (x=y))) H
def Ht:R2:=λx y H Q=>Cq x y=true/\Q (.bl (!decide (x=y))) H
theorem vy{i j:Int}:decide (V.int i=V.int j)=(i==j):=by
 rw[bY];simp
theorem vd{i j:Bool}:decide (V.bl i=V.bl j)=(i==j):=by
 rw[bY];simp
theorem vz{i j:Str}:decide (V.str i=V.str j)=(i==j):=by
 rw[bY];simp
theorem FO{i j:Array UInt8}:decide (V.kd i=V.kd j)=(i.toList==j.toList):=by
 rw[bY];cases i;cases j;simp
section
variable{a b:Expr}{tc:TE}
theorem i0{Q:VK}{k k':Bool}(I:Inv X pins Z H s)(q:Q (.bl k) H)(e:k=k'):EP X pins Z Q (.bool k') s:=by
 subst e;exact⟨.bl k,H,I,rfl,q⟩
theorem zK:eY X (compareOp .Eq) Hu:=by
 intro pins s Z H x y v u Q I rx ry h;obtain⟨hs,q⟩:=h;cases x with
 |bc =>
  cases rx;cases y with
  |bc=>cases ry;exact PySem.EqNone.eq_none_none (i0 I q (by simp))
  |bl j=>cases ry;exact PySem.EqNone.eq_none_bool (i0 I q (by simp))
  |int j=>obtain⟨t',rfl⟩:=ry;exact PySem.EqNone.eq_none_int (i0 I q (by simp))
  |str j=>obtain⟨t',rfl⟩:=ry;exact PySem.EqNone.eq_none_str (i0 I q (by simp))
  |_=>exact absurd (show false=true from hs) Bool.false_ne_true
 |bl i =>
  cases rx;cases y with
  |bc=>cases ry;exact PySem.EqNone.eq_bool_none (i0 I q (by simp))
  |bl j=>cases ry;exact eq_bool (i0 I q vd)
  |str j=>obtain⟨t',rfl⟩:=ry;exact PySem.EqMixed.eq_bool_str (i0 I q (by simp))
  |_=>exact absurd (show false=true from hs) Bool.false_ne_true
 |int i =>
  obtain⟨t,rfl⟩:=rx;cases y with
  |bc=>cases ry;exact PySem.EqNone.eq_int_none (i0 I q (by simp))
  |int j=>obtain⟨t',rfl⟩:=ry;exact eq_int (i0 I q vy)
  |str j=>obtain⟨t',rfl⟩:=ry;exact PySem.EqMixed.eq_int_str (i0 I q (by simp))
  |_=>exact absurd (show false=true from hs) Bool.false_ne_true
 |str i =>
  obtain⟨t,rfl⟩:=rx;cases y with
  |bc=>cases ry;exact PySem.EqNone.eq_str_none (i0 I q (by simp))
  |bl j=>cases ry;exact PySem.EqMixed.eq_str_bool (i0 I q (by simp))
  |int j=>obtain⟨t',rfl⟩:=ry;exact PySem.EqMixed.eq_str_int (i0 I q (by simp))
  |str j=>obtain⟨t',rfl⟩:=ry;exact eq_str (i0 I q vz)
  |_=>exact absurd (show false=true from hs) Bool.false_ne_true
 |kd i =>
  obtain⟨t,rfl⟩:=rx;cases y with
  |kd j=>obtain⟨t',rfl⟩:=ry;exact PySem.W.eq_bytes (i0 I q FO)
  |_=>exact absurd (show false=true from hs) Bool.false_ne_true
 |_=>cases y<;>exact absurd (show false=true from hs) bu
theorem zL:eY X (compareOp .NotEq) Ht:=by
 intro pins s Z H x y v u Q I rx ry h;obtain⟨hs,q⟩:=h;cases x with
 |bc =>
  cases rx;cases y with
  |bc=>cases ry;exact PySem.EqNone.ne_none_none (i0 I q (by simp))
  |bl j=>cases ry;exact PySem.EqNone.ne_none_bool (i0 I q (by simp))
  |int j=>obtain⟨t',rfl⟩:=ry;exact PySem.EqNone.ne_none_int (i0 I q (by simp))
  |str j=>obtain⟨t',rfl⟩:=ry;exact PySem.EqNone.ne_none_str (i0 I q (by simp))
  |_=>exact absurd (show false=true from hs) Bool.false_ne_true
 |bl i =>
  cases rx;cases y with
  |bc=>cases ry;exact PySem.EqNone.ne_bool_none (i0 I q (by simp))
  |bl j=>cases ry;exact ne_bool (i0 I q (congrArg not vd))
  |str j=>obtain⟨t',rfl⟩:=ry;exact PySem.EqMixed.ne_bool_str (i0 I q (by simp))
  |_=>exact absurd (show false=true from hs) Bool.false_ne_true
 |int i =>
  obtain⟨t,rfl⟩:=rx;cases y with
  |bc=>cases ry;exact PySem.EqNone.ne_int_none (i0 I q (by simp))
  |int j=>obtain⟨t',rfl⟩:=ry;exact ne_int (i0 I q (congrArg not vy))
  |str j=>obtain⟨t',rfl⟩:=ry;exact PySem.EqMixed.ne_int_str (i0 I q (by simp))
  |_=>exact absurd (show false=true from hs) Bool.false_ne_true
 |str i =>
  obtain⟨t,rfl⟩:=rx;cases y with
  |bc=>cases ry;exact PySem.EqNone.ne_str_none (i0 I q (by simp))
  |bl j=>cases ry;exact PySem.EqMixed.ne_str_bool (i0 I q (by simp))
  |int j=>obtain⟨t',rfl⟩:=ry;exact PySem.EqMixed.ne_str_int (i0 I q (by simp))
  |str j=>obtain⟨t',rfl⟩:=ry;exact ne_str (i0 I q (congrArg not vz))
  |_=>exact absurd (show false=true from hs) Bool.false_ne_true
 |kd i =>
  obtain⟨t,rfl⟩:=rx;cases y with
  |kd j=>obtain⟨t',rfl⟩:=ry;exact PySem.W.ne_bytes (i0 I q (congrArg not FO))
  |_=>exact absurd (show false=true from hs) Bool.false_ne_true
 |_=>cases y<;>exact absurd (show false=true from hs) bu
theorem Rz:eY X (compareOp .Lt) (kQ λi j=>.bl (decide (i<j))):=vP λ_ _ _ _ _ _ _ q=>lt_int q
theorem Ry:eY X (compareOp .LtE) (kQ λi j=>.bl (decide (i<=j))):=vP λ_ _ _ _ _ _ _ q=>le_int q
theorem Rx:eY X (compareOp .Gt) (kQ λi j=>.bl (decide (j<i))):=vP λ_ _ _ _ _ _ _ q=>gt_int q
theorem Rw:eY X (compareOp .GtE) (kQ λi j=>.bl (decide (j<=i))):=vP λ_ _ _ _ _ _ _ q=>ge_int q
theorem Kv:eY X (compareOp .Is) (λx y H Q=>y=.bc/\Q (.bl (decide (x=.bc))) H):=by
 intro pins s Z H x y v u Q I rx ry h;obtain⟨rfl,q⟩:=h;cases ry;refine is_none_gen (i0 I q ?_);cases x<;>first
  |(cases rx;rfl)
  |(obtain⟨t,rfl⟩:=rx;rfl)
theorem Ng:eY X (compareOp .IsNot) (λx y H Q=>y=.bc/\Q (.bl (!decide (x=.bc))) H):=by
 intro pins s Z H x y v u Q I rx ry h;obtain⟨rfl,q⟩:=h;cases ry;refine isnot_none_gen (i0 I q ?_);cases x<;>first
  |(cases rx;rfl)
  |(obtain⟨t,rfl⟩:=rx;rfl)
theorem Ge(ho:eY X (compareOp op) r)(ha:PE X a ta)(hb:PE X b tb)(hm:behindInMarks op b=false):PE X (.Compare a [op] [b] pos) (nz r ta tb):=by
 intro pins s Z H Q I h;exact wpAny_Compare1 (Aj ha hb I h λv u s2 x y H2 I2 rx ry q=>ho pins s2 Z H2 x y v u Q I2 rx ry q) hm
def tD(t:TE):TT:=λZ H Q=>t Z H λx H'=>∃k,x=.bl k/\Q k H'
theorem yU(ho:eY X (compareOp op) r)(ha:PE X a ta)(hb:PE X b tb)(hm:behindInMarks op b=false):PT X (.Compare a [op] [b] pos) (tD (nz r ta tb)):=by
 intro pins s Z H Q I h;refine wpAny_isTrue_Compare1 (bS (ha pins s Z H _ I h) λv s1 ⟨x,H1,I1,r1,q1⟩=>bS (hb pins s1 Z H1 _ I1 q1) λu s2 ⟨y,H2,I2,r2,q2⟩ =>
  bS (ho pins s2 Z H2 x y v u _ I2 r1 r2 q2) λc s3 ⟨z,H3,I3,r3,k,e,q3⟩=>?_) hm
 subst e;cases r3;exact bZ ⟨H3,I3,q3⟩
def yA(r r':R2)(ta tb tc:TE):TE:=λZ H Q=>ta Z H λx H1=>tb Z H1 λy H2=>r x y H2 λz H3=>∃k,z=.bl k /\
 (if k=true then tc Z H3 λw' H4=>r' y w' H4 Q else Q (.bl false) H3)
theorem Xq{gI:CmpOp}{r':R2}(ho:eY X (compareOp op) r)(lK:eY X (compareOp gI) r')(ha:PE X a ta)(hb:PE X b tb)(hc:PE X c tc)(hm:lastMarks [op,gI] [b,c]=false:=by with_unfolding_all rfl):PE X (.Compare a [op,gI] [b,c] pos) (yA r r' ta tb tc):=by
 intro pins s Z H Q I h;refine Compare_chain (bS (ha pins s Z H _ I h) λv s1 ⟨x,H1,I1,r1,q1⟩=>chain_link (bS (hb pins s1 Z H1 _ I1 q1) λu s2 ⟨y,H2,I2,r2,q2⟩ =>
  bS (ho pins s2 Z H2 x y v u _ I2 r1 r2 q2) λd s3 ⟨z,H3,I3,r3,k,e,q3⟩=>?_)) hm
 subst e;cases r3;refine bZ ?_;cases k with
 |false=>exact ite_ff ⟨.bl false,H3,I3,rfl,q3⟩
 |true=>exact ite_tt (chain_last (bS (hc pins s3 Z H3 _ I3 q3) λw' s4 ⟨z',H4,I4,r4,q4⟩=>lK pins s4 Z H4 y z' u w' Q I4 r2 r4 q4))
theorem XG{gI:CmpOp}{r':R2}(ho:eY X (compareOp op) r)(lK:eY X (compareOp gI) r')(ha:PE X a ta)(hb:PE X b tb)(hc:PE X c tc)(hm:lastMarks [op,gI] [b,c]=false:=by with_unfolding_all rfl):PT X (.Compare a [op,gI] [b,c] pos) (tD (yA r r' ta tb tc)):=by
 intro pins s Z H Q I h;refine isTrue_chain (bS (ha pins s Z H _ I h) λv s1 ⟨x,H1,I1,r1,q1⟩=>test_link (bS (hb pins s1 Z H1 _ I1 q1) λu s2 ⟨y,H2,I2,r2,q2⟩ =>
  bS (ho pins s2 Z H2 x y v u _ I2 r1 r2 q2) λd s3 ⟨z,H3,I3,r3,k,e,q3⟩=>?_)) hm
 subst e;cases r3;refine bZ ?_;cases k with
 |false =>
  obtain⟨k',e',q'⟩:=q3;cases e';exact ite_ff ⟨H3,I3,q'⟩
 |true =>
  refine ite_tt (test_last (bS (hc pins s3 Z H3 _ I3 q3) λw' s4 ⟨z',H4,I4,r4,q4⟩=>bS (lK pins s4 Z H4 y z' u w' _ I4 r2 r4 q4) λd' s5 aS=>?_));obtain⟨z2,H5,I5,r5,k2,e2,q5⟩:=aS;subst e2;cases r5;exact bZ ⟨H5,I5,q5⟩
def Ai(K:PySem.W.Frag)(x:V)(H:Hp)(k:Bool):Prop :=
 match x with
 |.bc=>k=false
 |.bl b=>k=b
 |.int i=>k=(i != 0)
 |.str y=>y.length<=sizeLine/\k=((y.length:Int) != 0)
 |.kd y=>y.size<=sizeLine/\k=((y.size:Int) != 0)
 |.ref p=>(∃xs,eT K H p xs/\k=!xs.isEmpty)\/(∃xs,gw K H p xs/\k=!xs.isEmpty)\/∃kvs,H p=some (.dK kvs)/\k=!kvs.isEmpty
 |_=>False
theorem U'{κ:Type}{kvs:List (κ×V)}{vs:List (κ×Value)}(r:KV kvs vs):(!vs.isEmpty)=!kvs.isEmpty:=by
 cases r<;>rfl
theorem Ey{aL:List Value}(r:Vals xs aL):(!aL.toArray.isEmpty)=!xs.isEmpty:=by
 cases r<;>simp
theorem Q4:(sizeLine:Nat)<2 ^ 63:=by rw[jF];decide
theorem Mg:Ow X (λx H Q=>∃k,Ai X.K x H k/\Q k H):=by
 intro pins s Z H x v Q I rx h;obtain⟨k,e,q⟩:=h;have hl:=Q4;have hs:sizeLine=16777216:=jF;cases x with
 |bc =>
  cases rx;have e':k=false:=e;subst e';exact truthy_none ⟨H,I,q⟩
 |bl b =>
  cases rx;have e':k=b:=e;subst e';exact bZ ⟨H,I,q⟩
 |int i =>
  obtain⟨t,rfl⟩:=rx;have e':k=(i != 0):=e;subst e';exact PySem.P.truthy_int ⟨H,I,q⟩
 |str y =>
  obtain⟨t,rfl⟩:=rx;obtain⟨hy,e'⟩:y.length<=sizeLine/\k=((y.length:Int) != 0):=e;subst e';exact PySem.P.truthy_str (by omega) ⟨H,I.tok _,q⟩
 |kd y =>
  obtain⟨t,rfl⟩:=rx;obtain⟨hy,e'⟩:y.size<=sizeLine/\k=((y.size:Int) != 0):=e;subst e';exact PySem.W.truthy_bytes (by omega) ⟨H,I.tok _,q⟩
 |ref p =>
  cases rx;have e':(∃xs,eT X.K H p xs/\k=!xs.isEmpty)\/(∃xs,gw X.K H p xs/\k=!xs.isEmpty)\/∃kvs,H p=some (.dK kvs)/\k=!kvs.isEmpty:=e;rcases e' with⟨xs,hx,e'⟩|⟨xs,hx,e'⟩|⟨kvs,hx,e'⟩
  ·subst e';obtain⟨aL,r,pl,hz⟩:=I.list hx;have hlen:=r.length;exact wpAny_truthy_list pl.isList (by simp only[List.size_toArray];omega) ⟨H,I.tok _,by rw[Ey r];exact q⟩
  ·subst e';obtain⟨aL,r,pl,hz⟩:=I.tuple hx;have hlen:=r.length;exact truthy_tuple pl (by simp only[List.size_toArray];omega) ⟨H,I.tok _,by rw[Ey r];exact q⟩
  ·subst e';obtain⟨hz,hS,vs,r,m⟩:kvs.length<=sizeLine/\(p==sysModules)=false/\∃vs,KV kvs vs/\s.heap.DictOf (d7 X.prog X.w) p vs:=I.br p _ hx;have hlen:kvs.length=vs.length:=kK r;exact wpAny_truthy_dict hS m (by omega) ⟨H,I.tok _,by rw[U' r];exact q⟩
 |_=>exact(show False from e).elim
theorem XH(ha:PE X a ta)(he:∀whole,isTrue a X.env whole=(do let v <- whole;standAt a.pos;holding [v] (truthy v))) :
  PT X a (λZ H Q=>ta Z H λx H'=>∃k,Ai X.K x H' k/\Q k H'):=by
 intro pins s Z H Q I h;exact isTrue_plain (bS (ha pins s Z H _ I h) λv s1 ⟨x,H1,I1,r1,q1⟩=>Mg pins s1 Z H1 x v Q I1 r1 q1) (he _)
theorem Vp:eY X (binaryOp .Add) (λx y H Q=>∃i j,x=.str i/\y=.str j/\i.length+j.length<=sizeLine/\Q (.str (i++j)) H):=by
 intro pins s Z H x y v u Q I rx ry h;obtain⟨i,j,rfl,rfl,hz,q⟩:=h;obtain⟨t,rfl⟩:=rx;obtain⟨t',rfl⟩:=ry;exact add_str (λt' tk=>⟨.str (i++j),H,I.tok _,⟨_,rfl⟩,q⟩) hz
theorem vals1{x:V}(r:Vals [x] us):∃u,us=[u]/\RelV x u:=by
 cases r with
 |cons r1 r2=>cases r2;exact⟨_,rfl,r1⟩
theorem vals2{x y:V}(r:Vals [x,y] us):∃u w',us=[u,w']/\RelV x u/\RelV y w':=by
 cases r with
 |cons r1 r2 =>
  cases r2 with
  |cons r3 r4=>cases r4;exact⟨_,_,rfl,r1,r3⟩
theorem Tz(hc:X.calm=true):j5 X (.builtin "max") (λxs H Q=>∃i j,xs=[.int i,.int j]/\Q (.int (if j>i then j else i)) H):=by
 intro pins s Z H xs us Q I r h;obtain⟨i,j,rfl,q⟩:=h;obtain⟨u,w',rfl,⟨t,rfl⟩,⟨t',rfl⟩⟩:=vals2 r;refine max_two_ints (I.ok.hd hc) λh' tk k=>⟨_,H,I.kept k,?_,q⟩
 by_cases hj:j>i
 ·rw[aK hj,aK hj];exact⟨_,rfl⟩
 ·rw[aD hj,aD hj];exact⟨_,rfl⟩
theorem DN:j5 X (.type "int") (λxs H Q=>(∃i,xs=[.int i]/\Q (.int i) H)\/∃k,xs=[.bl k]/\Q (.int (if k then 1 else 0)) H):=by
 intro pins s Z H xs us Q I r h;rcases h with⟨i,rfl,q⟩|⟨k,rfl,q⟩
 ·obtain⟨u,rfl,t,rfl⟩:=vals1 r;exact call_int_int ⟨.int i,H,I,⟨_,rfl⟩,q⟩
 ·obtain⟨u,rfl,r1⟩:=vals1 r;cases r1;exact call_int_bool ⟨.int (if k then 1 else 0),H,I.tok _,⟨_,rfl⟩,q⟩
end
structure pk(h:Heap)(x dx C:Addr)(mA:Str->Option Value):Prop where
 obj:h.get? x=some (PySem.W.instObj C dx)
 ns:h.Ns1 dx mA
 ne:dx≠x
theorem DY{mA:Str->Option Value}(n:h.Ns1 dx mA):∃od,h.get? dx=some od/\∀name,PySem.W.lookIn name od=some (mA name):=by
 obtain⟨o,es,ep,ho,hd,hk,_,hm⟩:=n;refine⟨o,ho,λname=>?_⟩;have e:=hm name;unfold nsFind findBy at e;rw[<- Array.find?_toList] at e;unfold PySem.W.lookIn;rw[hd];dsimp only;split
 ·rename_i y q;rw[q] at e;exact du some e
 ·rename_i q;rw[q] at e;have a:es.toList.any (·.refKey)=false:=by
   rw[YC];intro y hy;obtain⟨z,t,kA⟩:=hk y (Array.mem_toList_iff.mp hy);simp[DictEntry.refKey,kA]
  have a':¬es.toList.any (·.refKey)=true:=by rw[a];exact bu
  rw[aD a'];exact du some e
theorem pk.look{x:Addr}{mA:Str->Option Value}(I:pk h x dx C mA):∃od,PySem.W.InstAt h x (PySem.W.instObj C dx) C (some od)/\∀name,PySem.W.lookIn name od=some (mA name) :=
 let ⟨od,ho,hl⟩:=DY I.ns
 ⟨od,⟨I.obj,rfl,rfl,ho⟩,hl⟩
section
variable{prog:Program}{x:Addr}{mA:Str->Option Value}{name:Str}{v:Value}
theorem get_map{expr:Bool}(X:K.In s.heap)(I:pk s.heap x dx C mA)(hg:PySem.W.plainGet K C name=true)(hh:PySem.W.hasDictIn K C=true)(ha:PySem.W.findIn K (.ref C) name=some none)(hv:mA name=some v)(rq:PySem.W.handedIn v=true)(h:Q v { s with toks:=s.toks+1 }) :
  wpAny (model prog w) A (getAttr (.ref x) name expr) Q E s:=by
 obtain⟨od,J,hl⟩:=I.look;exact PySem.W.get_value X J (iH hg).1 (PySem.W.findObj_own hh ha rfl (by rw[hl,hv])) rq h
theorem WT{pl:Sem Bool}{Q:Value×List Value->Shared->Prop}(X:K.In s.heap)(I:pk s.heap x dx C mA)(hg:PySem.W.plainGet K C name=true)(hf:PySem.W.findIn K (.ref C) name=some (some (.ref f)))(ht:PySem.W.isFn K (.ref f)=true)(hv:mA name=none)(h:Q (.ref f,[.ref x]) s) :
  wpAny (model prog w) A (getMethod (.ref x) name pl) Q E s:=by
 obtain⟨od,J,hl⟩:=I.look;exact PySem.W.method_fn X J (iH hg).1 (iH hg).2 hf (jg.mp ht) (by show(PySem.W.lookIn name od).map (·.isSome)=some false;rw[hl,hv];rfl) h
theorem NV{ns:List Str}{Q:Unit->Shared->Prop}(X:K.In s.heap)(I:pk s.heap x dx C mA)(hs:PySem.W.findIn K (.ref C) "__setattr__"=some (some (.builtin "object.__setattr__")))(hp:PySem.W.plainOver K C=true)(ht:PySem.W.takerIn K C name=some none)(hh:PySem.W.hasDictIn K C=true)(hw:PySem.Within mA ns)(hsz:ns.length<=sizeLine)(h:∀h',pk h' x dx C (λy=>if y=name then some v else mA y)->Heap.SameBut dx s.heap h'->Q () { s with heap:=h',toks:=s.toks+2 }) :
  wpAny (model prog w) A (setAttr (.ref x) name v) Q E s:=by
 obtain⟨od,J,hl⟩:=I.look;refine PySem.W.set_plain X J hs (PySem.W.osa_open (s:={ s with toks:=s.toks+1 }) (r:=none) X J hp ht λb=>?_);obtain⟨cd,hc,xA⟩:=PySem.W.any_some hh;have hx:s.heap.get? x=some ⟨.ref C,some dx,.plain,#[]⟩:=I.obj;refine aa (ai (aa (aa (wpAny_loadPart hx (aa (PySem.W.Looks.here (s:={ s with toks:=s.toks+1 }) (PySem.W.looks_clsIn X hc) ?_))))));rw[xA];refine ai (a:=some dx) (aa (ai (aa ?_)));refine wpAny_nsSet1 (s:={ s with toks:=s.toks+1 }) I.ns λh' mW gC=>?_;obtain⟨oD,Zn,Zp,Ii,IF,IH⟩:=mW.count (PySem.Within.cons name v hw);refine aa (wpAny_lookBehind Ii (by rw[IF];exact pastItsLine_dict (aI IH (by rw[cV];omega))) ?_);exact ai (h _ ⟨(gC.2 _ (bg I.ne)).trans I.obj,mW,I.ne⟩ gC)
theorem Xf{R:Result->Shared->Prop}{vs:List Value}{kw:List (Str×Value)}(X:K.In s.heap)(hm:PySem.W.makesIn K C=true)(hi:PySem.W.findIn K (.ref C) "__init__"=some (some (.ref f)))(hf:PySem.W.typeIn K (.ref f)=some (.type "function"))(h:codeAny (model prog w) (A.under (.builtin "type.__call__" ⟨.ref C :: vs,kw⟩)) (.call (.ref f) ⟨.ref (s.heap.objs.size + 1) :: vs,kw⟩) (PySem.W.InitBack (s.heap.objs.size + 1) R)
   { s with heap:=(s.heap.push PySem.W.emptyDict).push (PySem.W.instObj C s.heap.objs.size) }) :
  codeAny (model prog w) A (.call (.ref C) ⟨vs,kw⟩) R s:=by
 obtain⟨hh,g,d,t,os⟩:=s;exact PySem.W.make_core (PySem.W.makes_of X hm) (PySem.W.looks_findIn X hi) (λself=>PySem.W.bind_fn X self hf) (.inl rfl) h
end
def n9(f:Str)(v:V):List (Str×V)->List (Str×V)
 |[]=>[(f,v)]
 |(g,x)::r=>if g=f then(g,v)::r else(g,x)::n9 f v r
theorem ES(f g:Str)(v:V):∀fs:List (Str×V),(n9 f v fs).lookup g=if g=f then some v else fs.lookup g
 |[]=>by
  show List.lookup g [(f,v)]=_;by_cases h:g=f
  ·have hb:(g==f)=true:=jg.mpr h;simp only[List.lookup,hb,if_pos h]
  ·have hb:(g==f)=false:=cT.mpr h;simp only[List.lookup,hb,if_neg h]
 |(k,x)::r=>by
  have ih:=ES f g v r;rw[show n9 f v ((k,x)::r)=(if k=f then(k,v)::r else(k,x)::n9 f v r) from rfl];by_cases hk:k=f
  ·rw[aK hk];by_cases h:g=k
   ·have hb:(g==k)=true:=jg.mpr h;simp only[List.lookup,hb,if_pos (h.trans hk)]
   ·have hb:(g==k)=false:=cT.mpr h;simp only[List.lookup,hb,if_neg (λe:g=f=>h (e.trans hk.symm))]
  ·rw[aD hk];by_cases h:g=k
   ·have hb:(g==k)=true:=jg.mpr h;simp only[List.lookup,hb,if_neg (λe:g=f=>hk (h.symm.trans e))]
   ·have hb:(g==k)=false:=cT.mpr h;simp only[List.lookup,hb];exact ih
theorem zo(f:Str)(v:V):∀fs:List (Str×V),f∈(n9 f v fs).map (·.1)/\∀g,g∈fs.map (·.1)->g∈(n9 f v fs).map (·.1)
 |[]=>⟨by simp[n9],λg h=>by simp at h⟩
 |(k,x)::r=>by
  obtain⟨i1,i2⟩:=zo f v r;rw[show n9 f v ((k,x)::r)=(if k=f then(k,v)::r else(k,x)::n9 f v r) from rfl];by_cases hk:k=f
  ·rw[aK hk];subst hk;exact⟨by simp,λg h=>by simpa using h⟩
  ·rw[aD hk];refine⟨?_,λg h=>?_⟩
   ·rw[ba];exact bI _ i1
   ·rw[ba] at h ⊢;rcases aw.mp h with e|e
    ·exact aw.mpr (.inl e)
    ·exact bI _ (i2 g e)
theorem ER(f:Str)(v:V):∀fs:List (Str×V),(n9 f v fs).length<=fs.length+1
 |[]=>by simp[n9]
 |(k,x)::r=>by
  have ih:=ER f v r;rw[show n9 f v ((k,x)::r)=(if k=f then(k,v)::r else(k,x)::n9 f v r) from rfl];by_cases hk:k=f
  ·rw[aK hk,cV,cV];omega
  ·rw[aD hk,cV,cV];omega
theorem v7.some_of{o:Option Value}(r:v7 (some v) o):∃u,o=some u/\RelV v u:=by
 cases o with
 |none=>exact(show False from r).elim
 |some u=>exact⟨u,rfl,r⟩
theorem v7.none_of{o:Option Value}(r:v7 none o):o=none:=by
 cases o with
 |none=>rfl
 |some u=>exact(show False from r).elim
theorem TU(r:RelV v u):PySem.W.handedIn u=true:=by
 cases v with
 |bc=>cases (show u=Value.none from r);rfl
 |bl b=>cases (show u=Value.bool b from r);rfl
 |int i=>obtain⟨t,e⟩:=(show ∃t,u=Value.int i t from r);cases e;rfl
 |str x=>obtain⟨t,e⟩:=(show ∃t,u=Value.str x t from r);cases e;rfl
 |kd b=>obtain⟨t,e⟩:=(show ∃t,u=Value.bytes b t from r);cases e;rfl
 |oY b=>obtain⟨t,e⟩:=(show ∃t,u=Value.float b t from r);cases e;rfl
 |ref a=>cases (show u=Value.ref a from r);rfl
 |ty n=>cases (show u=Value.type n from r);rfl
section
variable{fs:List (Str×V)}
theorem vC(br:fA P w H h)(e:H a=some (.ins C dx fs)):∃mA,pk h a dx C mA/\(∀f,v7 (fs.lookup f) (mA f))/\PySem.Within mA (fs.map (·.1))/\fs.length<=1000/\H dx=some (.own a):=by
 obtain⟨d,z,ne,ob,mA,n,r,q⟩:=(show j4 P w H h a (.ins C dx fs) from br a _ e)
 exact⟨mA,⟨ob,n,ne⟩,r,q,z,d⟩
end
structure ik(K:PySem.W.Frag)(C:Addr):Prop where
 pg:PySem.W.plainGet K C Str.empty=true
 hd:PySem.W.hasDictIn K C=true
 po:PySem.W.plainOver K C=true
 sa:PySem.W.findIn K (.ref C) "__setattr__"=some (some (.builtin "object.__setattr__"))
theorem ik.get(c:ik K C)(f:Str):PySem.W.plainGet K C f=true:=c.pg
def q8(K:PySem.W.Frag)(C:Addr)(f:Str):Prop:=PySem.W.findIn K (.ref C) f=some none
theorem q8.Sm{f:Str}(n:q8 K C f):PySem.W.takerIn K C f=some none:=by
 unfold PySem.W.takerIn;rw[show PySem.W.findIn K (.ref C) f=some none from n]
 rfl
structure Meth(K:PySem.W.Frag)(C:Addr)(m:Str)(f:Addr):Prop where
 at_:PySem.W.findIn K (.ref C) m=some (some (.ref f))
 fn:PySem.W.isFn K (.ref f)=true
 kp:PySem.W.keepIn K (.ref f)=true
section
variable{fs:List (Str×V)}{f:Str}
theorem Eu{b:Bool}(I:Inv X pins Z H s)(e:H a=some (.ins C dx fs))(c:ik X.K C)(n:q8 X.K C f)(l:fs.lookup f=some v)(h:∀u s',Inv X pins Z H s'->RelV v u->Q u s'):wpAny (model X.prog X.w) A (getAttr (.ref a) f b) Q E s:=by
 obtain⟨mA,O,r,_,_,_⟩:=vC I.br e;obtain⟨u,hu,ru⟩:=v7.some_of (v:=v) (o:=mA f) (by rw[<- l];exact r f);exact get_map I.fE O (c.get f) c.hd n hu (TU ru) (h u _ (I.tok _) ru)
theorem Ew{g:Addr}{pl:Sem Bool}{Q:Value×List Value->Shared->Prop}(I:Inv X pins Z H s)(e:H a=some (.ins C dx fs))(c:ik X.K C)(k:Meth X.K C m g)(l:fs.lookup m=none)(h:Q (.ref g,[.ref a]) s):wpAny (model X.prog X.w) A (getMethod (.ref a) m pl) Q E s:=by
 obtain⟨mA,O,r,_,_,_⟩:=vC I.br e;have hn:mA m=none:=v7.none_of (by rw[<- l];exact r m);exact WT I.fE O (c.get m) k.at_ k.fn hn h
theorem EG{y:V}{Q:Unit->Shared->Prop}(I:Inv X pins Z H s)(e:H a=some (.ins C dx fs))(c:ik X.K C)(n:q8 X.K C f)(hl:fs.length<1000)(ry:RelV y u)(h:∀s',Inv X pins Z (upd H a (.ins C dx (n9 f y fs))) s'->Q () s'):wpAny (model X.prog X.w) A (setAttr (.ref a) f u) Q E s:=by
 obtain⟨mA,O,r,wi,_,ho⟩:=vC I.br e;have hz:(fs.map (·.1)).length<=sizeLine:=by rw[ay,jF];omega
 refine NV I.fE O c.sa c.po n.Sm c.hd wi hz λh' O' sb=>h _ ?_;have hd:∃o,h'.get? dx=some o:=let ⟨o,_,_,e',_⟩:=O'.ns;⟨o,e'⟩
 refine I.write (x:=a) (e:=dx) (by rw[e];exact True.intro) (.inr ho) (λb q hb z=>(sb.2 b hb).trans z) hd ?_;refine⟨by rw[a7 O.ne];exact ho,?_,O.ne,O'.obj,_,O'.ns,λg=>?_,λg hg=>?_⟩
 ·have:=ER f y fs;omega
 ·show v7 ((n9 f y fs).lookup g) (if g=f then some u else mA g);rw[ES];by_cases q:g=f
  ·rw[aK q,aK q];exact ry
  ·rw[aD q,aD q];exact r g
 ·by_cases q:g=f
  ·rw[q];exact(zo f y fs).1
  ·refine(zo f y fs).2 g (wi g λz=>hg ?_);show(if g=f then some u else mA g)=none;rw[aD q];exact z
theorem Inv.made(I:Inv X pins Z H s):Inv X pins Z (upd (upd H s.heap.objs.size (.own (s.heap.objs.size+1))) (s.heap.objs.size+1) (.ins C s.heap.objs.size []))
  { s with heap:=(s.heap.push PySem.W.emptyDict).push (PySem.W.instObj C s.heap.objs.size) }:=by
 have e1:(s.heap.push PySem.W.emptyDict).get? s.heap.objs.size=some PySem.W.emptyDict:=au s.heap rfl;have e2:((s.heap.push PySem.W.emptyDict).push (PySem.W.instObj C s.heap.objs.size)).get? (s.heap.objs.size+1)=some (PySem.W.instObj C s.heap.objs.size):=by
  have:=au (s.heap.push PySem.W.emptyDict) (o:=PySem.W.instObj C s.heap.objs.size) rfl
  rwa [cP] at this
 have e3:(s.heap.push PySem.W.emptyDict).Ns s.heap.objs.size (λ_=>none):=⟨PySem.W.emptyDict,#[],_,e1,rfl,(λe he=>absurd he (by simp)),λ_=>rfl⟩
 have I1:=I.laid (a:=s.heap.objs.size) (o:=.own (s.heap.objs.size+1)) (h':=s.heap.push PySem.W.emptyDict) (t':=s.toks) (λb u q=>ah _ q) (aj _) ⟨_,e1⟩;refine I1.laid (a:=s.heap.objs.size+1) (o:=.ins C s.heap.objs.size []) (t':=s.toks) (λb u q=>ah _ q) (Nat.le_of_eq (cP _ _)) ?_;have ne:s.heap.objs.size≠s.heap.objs.size+1:=aE (dA _);refine⟨by rw[a7 ne,f9],bX _,ne,e2,λ_=>none,(Heap.Ns1.of_empty e3).at λo q=>ah _ q,λ_=>True.intro,λy hy=>absurd rfl hy⟩
theorem Mu{prog:Program}{env:Env}(hb:attributeBase e f env (eval e env)=eval e env)(h:wpAny (model prog w) A (eval e env) (λo bx=>wpAny (model prog w) A (getAttr o f true) Q E bx) E s):wpAny (model prog w) A (eval (.Attribute e f pos) env) Q E s :=
 Attribute_any_ h (by rw[arm_eval_Attribute,hb])
end
def Qc(K:PySem.W.Frag)(ta:TE)(f:Str):TE:=λZ H Q=>ta Z H λx H1=>∃a C dx fs v,x=.ref a/\H1 a=some (.ins C dx fs)/\ik K C/\q8 K C f/\fs.lookup f=some v/\Q v H1
def PK(K:PySem.W.Frag)(ta tv:TE)(f:Str):TS:=λD Z H=>tv Z H λy H1=>ta Z H1 λx H2=>∃a C dx fs,x=.ref a/\H2 a=some (.ins C dx fs)/\ik K C/\q8 K C f/\fs.length<1000 /\
 D.nx Z (upd H2 a (.ins C dx (n9 f y fs)))
def Af(X:Cx)(op:Operator)(rd:V->V->Hp->VK->Prop):Prop :=
 ∀(pins:List (Addr×Obj)) (s:Shared) (Z:St) (H:Hp) (x y:V) (u v:Value) (Q:VK),Inv X pins Z H s->RelV x u->RelV y v->rd x y H Q->wpAny (model X.prog X.w) X.A (inplaceOp op u v) (EP X pins Z Q) X.xe s
def NI(K:PySem.W.Frag)(ta tv:TE)(rd:V->V->Hp->VK->Prop)(f:Str):TS:=λD Z H=>ta Z H λx H1=>∃a C dx fs v,x=.ref a/\H1 a=some (.ins C dx fs)/\ik K C/\q8 K C f/\fs.lookup f=some v /\
 tv Z H1 λy H2=>rd v y H2 λz H3=>∃pZ ig,H3 a=some (.ins C pZ ig)/\ig.length<1000/\D.nx Z (upd H3 a (.ins C pZ (n9 f z ig)))
section
variable{o value:Expr}{f:Str}{qH:Pos}{tv:TE}
theorem KJ(he:PE X e ta)(hb:attributeBase e f X.env (eval e X.env)=eval e X.env):PE X (.Attribute e f pos) (Qc X.K ta f):=by
 intro pins s Z H Q I h;refine Mu hb (bS (he pins s Z H _ I h) λu s1 aS=>?_);obtain⟨x,H1,I1,rx,a,C,dx,fs,v,ex,ea,c,n,l,q⟩:=aS;subst ex;obtain rfl:u=Value.ref a:=rx;exact Eu I1 ea c n l λu' s2 I2 ru=>⟨v,H1,I2,ru,q⟩
theorem KZ(ha:PE X o ta)(hv:PE X value tv)(hs:swapsWith value (some (.Attribute o f pos')) pos.line X.env=pure false):PS X (.Assign [.Attribute o f pos'] value pos) (PK X.K ta tv f):=by
 intro pins s Z H D I h;refine plainObj_wpAny_Assign_Attribute (bS (hv pins s Z H _ I h) λu s1 ⟨y,H1,I1,ry,q⟩=>bS (ha pins s1 Z H1 _ I1 q) λov s2 aS=>?_) hs;obtain⟨x,H2,I2,rx,a,C,dx,fs,ex,ea,c,n,l,q2⟩:=aS;subst ex;obtain rfl:ov=Value.ref a:=rx;exact EG I2 ea c n l ry λs3 I3=>⟨Z,_,I3,q2⟩
theorem UD{op:Operator}{rd:V->V->Hp->VK->Prop}(ha:PE X o ta)(hv:PE X value tv)(xi:Af X op rd):PS X (.AugAssign (.Attribute o f qH) op value pos) (NI X.K ta tv rd f):=by
 intro pins s Z H D I h;refine wpAny_AugAssign_AttributeAny (bS (ha pins s Z H _ I h) λov s1 aS=>?_);obtain⟨x,H1,I1,rx,a,C,dx,fs,v,ex,ea,c,n,l,q⟩:=aS;subst ex;obtain rfl:ov=Value.ref a:=rx;refine Eu I1 ea c n l λu s2 I2 ru=>bS (hv pins s2 Z H1 _ I2 q) λw3 s3 ⟨y,H2,I3,ry,q3⟩=>bS (xi pins s3 Z H2 v y u w3 _ I3 ru ry q3) λw4 s4 aS=>?_;obtain⟨z,H3,I4,rz,pZ,ig,JD,l',q4⟩:=aS;exact EG I4 JD c n l' rz λs5 I5=>⟨Z,_,I5,q4⟩
def Pp:V->V->Hp->VK->Prop:=λx y H Q=>∃i j,x=.int i/\y=.int j/\Q (.int (i+j)) H
theorem JW:Af X .Add Pp:=by
 rintro pins s Z H x y u v Q I rx ry ⟨i,j,rfl,rfl,q⟩;obtain⟨t,rfl⟩:=(show ∃t,u=Value.int i t from rx)
 obtain⟨t',rfl⟩:=(show ∃t',v=Value.int j t' from ry)
 exact PyProof.Rows.iadd_int ⟨.int (i+j),H,I.tok _,⟨_,rfl⟩,q⟩
end
section
variable{c:Value}{b:Bool}
inductive gi(K:PySem.W.Frag)(H:Hp):V->Value->Prop where
 |bc:gi K H .bc (.type "NoneType")
 |bl (x:Bool):gi K H (.bl x) (.type "bool")
 |int (i:Int):gi K H (.int i) (.type "int")
 |str (x:Str):gi K H (.str x) (.type "str")
 |oY (x:UInt64):gi K H (.oY x) (.type "float")
 |lst {a:Addr} {xs:List V} (e:H a=some (.lst xs)):gi K H (.ref a) (.type "list")
 |iW {a:Addr} {o:Obj} {xs:List V} (e:H a=some (.iW o (.lst xs))):gi K H (.ref a) (.type "list")
 |tup {a:Addr} {xs:List V} (e:H a=some (.tup xs)):gi K H (.ref a) (.type "tuple")
 |dK {a:Addr} {kvs:List (Key×V)} (e:H a=some (.dK kvs)):gi K H (.ref a) (.type "dict")
 |dT {a:Addr} {kvs:List (List Key×V)} (e:H a=some (.dT kvs)):gi K H (.ref a) (.type "dict")
 |ins {a C dx:Addr} {fs:List (Str×V)} (e:H a=some (.ins C dx fs)) (cl:ik K C) (ha:PySem.W.findIn K (.ref C) "__class__"=some (some (.builtin "object.__class__")))
   (hn:PySem.W.specialIn K (.builtin "object.__class__") "__get__"=some (some (.builtin "getset_descriptor.__get__"))) (pR:PySem.W.takesIn K (.builtin "object.__class__")=some true)
   (hm:PySem.W.mroIn K C (.type "object")=some true):gi K H (.ref a) (.ref C)
theorem TZ{x:V}{t:Value}(I:Inv X pins Z H s)(rx:RelV x u)(ty:gi X.K H x t)(e:PySem.W.kitOne X.K t c=some b)(h:∀tk,Q (.bool b) { s with toks:=tk }) :
  wpAny (model X.prog X.w) A (call (.builtin "isinstance") [u,c]) Q E s:=by
 cases ty with
 |bc=>cases (show u=Value.none from rx);exact bK PySem.W.kitx_none I.fE True.intro e (λz=>nomatch z) h
 |bl y=>cases (show u=Value.bool y from rx);exact bK PySem.W.kitx_bool I.fE True.intro e (λz=>nomatch z) h
 |int i=>obtain⟨t,q⟩:=(show ∃t,u=Value.int i t from rx);cases q;exact bK PySem.W.kitx_int I.fE True.intro e (λz=>nomatch z) h
 |str y=>obtain⟨t,q⟩:=(show ∃t,u=Value.str y t from rx);cases q;exact bK PySem.W.kitx_str I.fE True.intro e (λz=>nomatch z) h
 |oY y=>obtain⟨t,q⟩:=(show ∃t,u=Value.float y t from rx);cases q;exact bK PySem.W.kitx_float I.fE True.intro e (λz=>nomatch z) h
 |@lst a xs ea =>
  cases (show u=Value.ref a from rx);obtain⟨_,_,n,_,h1⟩:=(show j4 X.prog X.w H s.heap a (.lst xs) from I.br a _ ea)
  exact bK Yw I.fE ⟨_,h1,rfl⟩ e (λz=>nomatch z) h
 |@iW a ob xs ea =>
  cases (show u=Value.ref a from rx);obtain⟨_,_,_,n,_,h1⟩:=(show j4 X.prog X.w H s.heap a (.iW ob (.lst xs)) from I.br a _ ea)
  exact bK Yw I.fE ⟨_,h1,rfl⟩ e (λz=>nomatch z) h
 |@tup a xs ea =>
  cases (show u=Value.ref a from rx);obtain⟨_,_,_,p⟩:=(show j4 X.prog X.w H s.heap a (.tup xs) from I.br a _ ea)
  obtain⟨o,h1,h2,_⟩:=p;exact bK GW I.fE ⟨o,h1,h2⟩ e (λz=>nomatch z) h
 |@dK a kvs ea =>
  cases (show u=Value.ref a from rx);obtain⟨_,_,vs,_,p⟩:=(show j4 X.prog X.w H s.heap a (.dK kvs) from I.br a _ ea)
  obtain⟨o,es,ep,h1,h2,_⟩:=p;exact bK Yx I.fE ⟨o,h1,h2.1⟩ e (λz=>nomatch z) h
 |@dT a kvs ea =>
  cases (show u=Value.ref a from rx);obtain⟨_,_,xs,_,o,es,ep,h1,h2,_⟩:=(show j4 X.prog X.w H s.heap a (.dT kvs) from I.br a _ ea)
  exact bK Yx I.fE ⟨o,h1,h2.1⟩ e (λz=>nomatch z) h
 |@ins a C dx fs ea cl ha hn pR hm =>
  cases (show u=Value.ref a from rx);obtain⟨mA,O,_⟩:=vC I.br ea;obtain⟨od,J,_⟩:=O.look;exact bK (PySem.W.kitx_own (cl.get _) cl.hd ha hn pR hm) I.fE J e (λz=>nomatch z) h
end
structure m6(k:Nat)(A:Around):Prop where
 hd:A.handled=none
 dp:A.depth+3*k+5<recursionLimit
 un:A.units+16*k+200<cLine
theorem m6.mono(r:m6 k A)(h:j<=k):m6 j A:=⟨r.hd,by have:=r.dp;omega,by have:=r.un;omega⟩
theorem m6.deeper{k:Nat}{A:Around}(r:m6 (k+1) A)(env:Env):m6 k (A.deeper env) :=
 ⟨r.hd,by have:=r.dp;show A.depth+1+3*k+5<_;omega,by have:=r.un;show A.units+3+16*k+200<_;omega⟩
theorem Vj{kw:List (Str×Value)}:(A.under (.builtin "type.__call__" ⟨.ref C::us,kw⟩)).depth=A.depth+1:=by
 first|rfl|simp[Around.under,Code.weight,Code.isCreation,Code.isGuard,Code.isCaller,Code.frames,Code.isFrame,guardIds]
theorem Vk{kw:List (Str×Value)}:(A.under (.builtin "type.__call__" ⟨.ref C::us,kw⟩)).units=A.units+1:=by
 first|rfl|simp[Around.under,Code.cUnits,Code.frames,Code.isFrame]
theorem m6.make(r:m6 (k+1) A)(C:Addr)(us:List Value)(kw:List (Str×Value)):m6 k (A.under (.builtin "type.__call__" ⟨.ref C::us,kw⟩)) :=
 ⟨r.hd,by have:=r.dp;rw[Vj];omega,by have:=r.un;rw[Vk];omega⟩
theorem m6.depth{k:Nat}{A:Around}(r:m6 k A):A.depth<recursionLimit:=by have:=r.dp;omega
def Aq:TA:=λ_ H Q=>Q [] H
def Sf(ta:TE)(tr:TA):TA:=λZ H Q=>ta Z H λx H1=>tr Z H1 λxs H2=>Q (x::xs) H2
theorem U5:PA X [] Aq:=λ_ _ _ _ H Q I h=>Calls.spliced_nil ⟨[],H,I,.nil,h⟩
theorem O7(ha:PE X e te)(hr:PA X es t)(hs:starEach (e::es) X.env=(false,eval e X.env)::starEach es X.env:=by rfl):PA X (e::es) (Sf te t):=by
 intro pos pins s Z H Q I h;rw[hs];show wpAny _ _ (spliced ((false,eval e X.env)::backTo pos (starEach es X.env))) _ _ s;refine Calls.spliced_cons (bS (ha pins s Z H _ I h) λu s1 aS=>?_);obtain⟨x,H1,I1,r1,q1⟩:=aS;exact bS (hr pos pins s1 Z H1 _ I1 q1) λus s2 ⟨xs,H2,I2,r2,q2⟩=>⟨x::xs,H2,I2,.cons r1 r2,q2⟩
def Qm(t:TA):TE:=λZ H Q=>t Z H λxs H1=>xs.length<=sizeLine/\∀p,H1 p=none->Q (.ref p) (upd H1 p (.tup xs))
def Qg(t:TA):TE:=λZ H Q=>t Z H λxs H1=>xs.length<=sizeLine/\∀p,H1 p=none->Q (.ref p) (upd H1 p (.lst xs))
theorem KR{x1}(h:PA X es t):PE X (.Tuple es x1 pos) (Qm t):=by
 intro pins s Z H Q I hq;refine wpAny_Tuple_spliced (bS (h pos pins s Z H _ I hq) λus s1 ⟨xs,H1,I1,r,z,q⟩=>⟨by rw[<- r.length];exact z,?_⟩);have hf:H1 s1.heap.objs.size=none:=I1.br.fresh (aj _);refine⟨.ref s1.heap.objs.size,upd H1 s1.heap.objs.size (.tup xs),I1.laid (t':=s1.toks) (λb u e=>ah _ e) (aj _) ?_,rfl,q _ hf⟩;exact⟨z,us,r,⟨_,au _ rfl,rfl,⟨_,rfl⟩,rfl⟩⟩
theorem KN(h:PA X es t):PE X (.List es pos) (Qg t):=by
 intro pins s Z H Q I hq;refine wpAny_List_spliced (bS (h pos pins s Z H _ I hq) λus s1 ⟨xs,H1,I1,r,z,q⟩=>⟨by rw[<- r.length];exact z,?_⟩);have hf:H1 s1.heap.objs.size=none:=I1.br.fresh (aj _);refine⟨.ref s1.heap.objs.size,upd H1 s1.heap.objs.size (.lst xs),I1.laid (t':=s1.toks) (λb u e=>ah _ e) (aj _) ?_,rfl,q _ hf⟩;exact⟨z,us,0,r,au _ rfl⟩
noncomputable abbrev Sp:=List V->Hp->VK->XK->Prop
noncomputable abbrev lY:=List Env->Hp->Shared->XK->Value->Shared->Prop
structure pj(P:Program)(w:World)(K:PySem.W.Frag)(mg:Str->Option Value)(base:Heap)(A:Around)(outer:List Env)(s:Shared)(H:Hp):Prop where
 frames:A.frames=some outer
 mod:Mod K mg base
 bs:∀b o,base.get? b=some o->s.heap.get? b=some o/\H b=none
 lV:base.objs.size<=s.heap.objs.size
 F9:s.heap.FunFrames base outer
 mw:∀b∈ft outer,H b=none
 br:fA P w H s.heap
 bare:AllBare s.gens
def CE(outer:List Env)(P:Program)(w:World)(H:Hp)(s:Shared)(Q:VK)(u:Value)(s':Shared):Prop :=
 ∃v H',s'.os=s.os/\AllBare s'.gens/\Un (ft outer) [] H H' s.heap s'.heap/\fA P w H' s'.heap/\RelV v u/\Q v H'
def CR(CX:lY)(outer:List Env)(P:Program)(w:World)(H:Hp)(s:Shared)(Q:VK)(E:XK)(r:Result)(s':Shared):Prop :=
 match r with
 |.ok (.ret u)=>CE outer P w H s Q u s'
 |.ok _=>False
 |.error e=>CX outer H s E e s'
structure fV(P:Program)(w:World)(K:PySem.W.Frag)(mg:Str->Option Value)(base:Heap)(CX:lY)(k:Nat)(f:Addr)(fd:FuncData)(ps:List Str)(sp:Sp):Prop where
 len:∀vs H Q E,sp vs H Q E->vs.length=ps.length
 run:∀(A:Around) (outer:List Env) (s:Shared) (H:Hp) (args:Args) (us:List Value) (vs:List V) (Q:VK) (E:XK),m6 k A->pj P w K mg base A outer s H->BindsTo s fd args (ps.zip us)->Vals vs us->sp vs H Q E ->
  codeAny (model P w) A (.call (.ref f) args) (CR CX outer P w H s Q E) s
theorem pj.make{mg:Str->Option Value}{outer:List Env}(e:pj P w K mg base A outer s H)(C:Addr)(us:List Value)(kw:List (Str×Value)) :
  pj P w K mg base (A.under (.builtin "type.__call__" ⟨.ref C::us,kw⟩)) outer s H:=⟨by first|exact e.frames|(simpa[Around.under,Code.envs,Code.isFrame,pushEnvs] using e.frames),e.mod,e.bs,e.lV,e.F9,e.mw,e.br,e.bare⟩
section
variable{s':Shared}
theorem Inv.Ce(I:Inv X pins Z H s):pj X.prog X.w X.K X.mg X.base X.A X.stack s H :=
 ⟨I.ok.frames,I.ok.mod,I.bs,aI I.ok.lV I.sz,I.stack,I.vJ,I.br,I.bare⟩
theorem Inv.after{Q:VK}(I:Inv X pins Z H s)(h:CE X.stack X.prog X.w H s Q u s'):EP X pins Z Q u s':=by
 obtain⟨v,H',os,bare,un,br,r,q⟩:=h;obtain⟨hh,g,d,t,oC⟩:=s';obtain rfl:oC=s.os:=os;exact⟨v,H',I.call (h':=hh) (g':=g) (d':=d) (t':=t) (ch:=[]) un br bare (λb z=>absurd z (by simp)),r,q⟩
end
def Dh(sp:Sp)(dvs:List V)(E:XK)(t:TA):TE:=λZ H Q=>t Z H λvs H1=>sp (vs++dvs) H1 Q E
def Di(C:Addr)(sp:Sp)(dvs:List V)(E:XK)(t:TA):TE:=λZ H Q=>t Z H λvs H1=>∀x dx,H1 x=none->H1 dx=none->dx≠x ->
 sp (.ref x::(vs++dvs)) (upd (upd H1 dx (.own x)) x (.ins C dx [])) (λv H2=>v=.bc/\Q (.ref x) H2) E
def Binds(K:PySem.W.Frag)(fd:FuncData)(ps:List Str)(ds:List Value):Prop :=
 ∀(s:Shared) (us:List Value),K.In s.heap->(us++ds).length=ps.length->BindsTo s fd ⟨us,[]⟩ (ps.zip (us++ds))
theorem Binds.all(h:∀us:List Value,us.length=ps.length->bindArgs fd ⟨us,[]⟩=pure (ps.zip us)):Binds K fd ps []:=λs us _ hl=>by
 rw[fk] at hl ⊢;exact .of_eq (h us hl)
def Passes(CX:lY)(X:Cx)(E:XK):Prop:=∀(pins:List (Addr×Obj)) (Z:St) (H:Hp) (s:Shared) (e:Value) (s':Shared),Inv X pins Z H s->CX X.stack H s E e s'->X.xe e s'
section
variable{dvs:List V}{ds:List Value}{E:XK}
theorem vi{Q:VK}(F:fV X.prog X.w X.K X.mg X.base CX k f fd ps sp)(hr:m6 k X.A)(hb:Binds X.K fd ps ds)(hd:Vals dvs ds)(hx:Passes CX X E)(I:Inv X pins Z H s)(r:Vals vs us)(h:sp (vs++dvs) H Q E):wpAny (model X.prog X.w) X.A (call (.ref f) us) (EP X pins Z Q) X.xe s:=by
 have r2:Vals (vs++dvs) (us++ds):=r.append hd;have hl:(us++ds).length=ps.length:=by rw[<- r2.length];exact F.len _ _ _ _ h
 refine wpAny_call (fZ (F.run X.A X.stack s H ⟨us,[]⟩ (us++ds) (vs++dvs) Q E hr I.Ce (hb s us I.fE hl) r2 h) λr s' hq=>?_);cases r with
 |error e=>exact hx pins Z H s e s' I hq
 |ok fl =>
  cases fl with
  |ret u=>exact I.after hq
  |next=>exact False.elim hq
  |brk=>exact False.elim hq
  |cont=>exact False.elim hq
theorem Nm(F:fV X.prog X.w X.K X.mg X.base CX k f fd ps sp)(hr:m6 k X.A)(hg:Gl X x)(hm:X.mg x=some (.ref f))(hk:PySem.W.keepIn X.K (.ref f)=true)(hb:Binds X.K fd ps ds)(hd:Vals dvs ds)(hx:Passes CX X E)(ha:PA X (e::es) t)(gq:(x==("__debug__":Str))=false:=by decide)(he:starEach (e::es) X.env=(false,eval e X.env)::starEach es X.env:=by rfl)(fO:(backTo pos (starEach es X.env)).any (·.1)=false:=by rfl) :
  PE X (.Call (.Name x p) (e::es) [] pos) (Dh sp dvs E t):=by
 intro pins s Z H Q I h;refine cv (L7 I hg hm ?_ gq);refine jh (h₀:=X.base) I.ok.mod.lF hk (bS (ha pos pins s Z H _ I h) λus s1 ⟨vs,H1,I1,r,q⟩=>⟨I1.fE,?_⟩) he fO;exact vi F hr hb hd hx I1 r q
theorem Xp(F:fV X.prog X.w X.K X.mg X.base CX k f fd ps sp)(hr:m6 k X.A)(hg:Gl X x)(hm:X.mg x=some (.ref f))(hk:PySem.W.keepIn X.K (.ref f)=true)(hb:Binds X.K fd ps ds)(hd:Vals dvs ds)(hx:Passes CX X E)(gq:(x==("__debug__":Str))=false:=by decide):PE X (.Call (.Name x p) [] [] pos) (Dh sp dvs E Aq):=by
 intro pins s Z H Q I h;refine cv (L7 I hg hm ?_ gq);exact iJ I.fE hk (vi (us:=[]) F hr hb hd hx I .nil h)
structure Mk(K:PySem.W.Frag)(C f:Addr):Prop where
 makes:PySem.W.makesIn K C=true
 init:PySem.W.findIn K (.ref C) "__init__"=some (some (.ref f))
 fn:PySem.W.isFn K (.ref f)=true
 kp:PySem.W.keepIn K (.ref C)=true
theorem Dz{Q:VK}(M:Mk X.K C f)(F:fV X.prog X.w X.K X.mg X.base CX k f fd ps sp)(hr:m6 (k+1) X.A)(hb:Binds X.K fd ps ds)(hd:Vals dvs ds)(hx:Passes CX X E)(I:Inv X pins Z H s)(r:Vals vs us)(h:∀x dx,H x=none->H dx=none->dx≠x->sp (.ref x::(vs++dvs)) (upd (upd H dx (.own x)) x (.ins C dx [])) (λv H2=>v=.bc/\Q (.ref x) H2) E) :
  wpAny (model X.prog X.w) X.A (call (.ref C) us) (EP X pins Z Q) X.xe s:=by
 have hq:=h (s.heap.objs.size+1) s.heap.objs.size (I.br.fresh (fe _)) (I.br.fresh (aj _)) (aE (dA _));have I2:=Inv.made (C:=C) I;have r2:Vals (V.ref (s.heap.objs.size+1)::(vs++dvs)) (Value.ref (s.heap.objs.size+1)::(us++ds)):=.cons rfl (r.append hd);have hl:(Value.ref (s.heap.objs.size+1)::us++ds).length=ps.length:=by
  have e:=r2.length;rw[F.len _ _ _ _ hq] at e;exact e.symm
 refine wpAny_call (Xf (f:=f) I.fE M.makes M.init (jg.mp M.fn) (fZ (F.run _ X.stack _ _ ⟨Value.ref (s.heap.objs.size + 1) :: us,[]⟩ (Value.ref (s.heap.objs.size + 1) :: (us ++ ds)) _ _ E (hr.make C us [])
  (I2.Ce.make C us []) (hb _ (Value.ref (s.heap.objs.size + 1) :: us) I2.fE hl) r2 hq) λr s' lJ=>?_))
 cases r with
 |error e=>exact hx pins Z _ _ e s' I2 lJ
 |ok fl =>
  cases fl with
  |ret u =>
   obtain⟨v,H',I3,rv,ev,q3⟩:=I2.after lJ;subst ev;exact⟨rv,⟨V.ref (s.heap.objs.size+1),H',I3,rfl,q3⟩⟩
  |next=>exact False.elim lJ
  |brk=>exact False.elim lJ
  |cont=>exact False.elim lJ
theorem Nq(M:Mk X.K C f)(F:fV X.prog X.w X.K X.mg X.base CX k f fd ps sp)(hr:m6 (k+1) X.A)(hg:Gl X x)(hm:X.mg x=some (.ref C))(hb:Binds X.K fd ps ds)(hd:Vals dvs ds)(hx:Passes CX X E)(ha:PA X (e::es) t)(gq:(x==("__debug__":Str))=false:=by decide)(he:starEach (e::es) X.env=(false,eval e X.env)::starEach es X.env:=by rfl)(fO:(backTo pos (starEach es X.env)).any (·.1)=false:=by rfl) :
  PE X (.Call (.Name x p) (e::es) [] pos) (Di C sp dvs E t):=by
 intro pins s Z H Q I h;refine cv (L7 I hg hm ?_ gq);refine jh (h₀:=X.base) I.ok.mod.lF M.kp (bS (ha pos pins s Z H _ I h) λus s1 ⟨vs,H1,I1,r,q⟩=>⟨I1.fE,?_⟩) he fO;exact Dz M F hr hb hd hx I1 r q
theorem Xv(M:Mk X.K C f)(F:fV X.prog X.w X.K X.mg X.base CX k f fd ps sp)(hr:m6 (k+1) X.A)(hg:Gl X x)(hm:X.mg x=some (.ref C))(hb:Binds X.K fd ps ds)(hd:Vals dvs ds)(hx:Passes CX X E)(gq:(x==("__debug__":Str))=false:=by decide):PE X (.Call (.Name x p) [] [] pos) (Di C sp dvs E Aq):=by
 intro pins s Z H Q I h;refine cv (L7 I hg hm ?_ gq);exact iJ I.fE M.kp (Dz (us:=[]) M F hr hb hd hx I .nil h)
end
structure gW(N P:List Str)(sc:Scope):Prop where
 kind:sc.kind=.function
 co:sc.isCoroutine=false
 gen:sc.isGenerator=false
 nd:N.Nodup
 pre:N.take P.length=P
 par:∀x∈P,sc.names.lookup x=some .local\/sc.names.lookup x=some .cell
 lA:∀y∈sc.names,y.2≠.free
theorem DM{kindOf:Str->Option NameKind}{x:Str}:∀{binds:List (Str×Value)} {m:Str->Option Value},(∀v,(x,v)∉binds)->bindL kindOf binds m x=m x
 |[],_,_=>rfl
 |(n,v)::r,m,h=>by
  unfold bindL;rw[DM λw hw=>h w (bI _ hw)];split
  ·have:x≠n:=by rintro rfl;exact h v fI
   simp[this]
  ·rfl
theorem DK{kindOf:Str->Option NameKind}{x:Str}:∀{binds:List (Str×Value)} {m:Str->Option Value},(∀v,(x,v)∉binds)->bindC kindOf binds m x=m x
 |[],_,_=>rfl
 |(n,v)::r,m,h=>by
  unfold bindC;rw[DK λw hw=>h w (bI _ hw)];split
  ·rfl
  ·have:x≠n:=by rintro rfl;exact h v fI
   simp[this]
theorem DL{kindOf:Str->Option NameKind}{x:Str}{v:Value}:∀{P:List Str} {vs:List Value} {i:Nat} {m:Str->Option Value},P.Nodup->P[i]?=some x->vs[i]?=some v->kindOf x=some .local ->
  bindL kindOf (P.zip vs) m x=some v
 |[],_,_,_,_,h,_,_=>by simp at h
 |_::_,[],_,_,_,_,h,_=>by simp at h
 |p::P,w::vs,0,m,nd,h1,h2,hk=>by
  simp at h1 h2;subst h1;subst h2;show bindL kindOf ((p,w)::P.zip vs) m p=_;unfold bindL;rw[DM λv hv=>(fj.mp nd).1 (kZ hv).1,aK hk];simp
 |p::P,w::vs,i+1,m,nd,h1,h2,hk=>by
  show bindL kindOf ((p,w)::P.zip vs) m x=_;unfold bindL;exact DL (i:=i) (fj.mp nd).2 (by simpa using h1) (by simpa using h2) hk
theorem DJ{kindOf:Str->Option NameKind}{x:Str}{v:Value}:∀{P:List Str} {vs:List Value} {i:Nat} {m:Str->Option Value},P.Nodup->P[i]?=some x->vs[i]?=some v->kindOf x≠some .local ->
  bindC kindOf (P.zip vs) m x=some v
 |[],_,_,_,_,h,_,_=>by simp at h
 |_::_,[],_,_,_,_,h,_=>by simp at h
 |p::P,w::vs,0,m,nd,h1,h2,hk=>by
  simp at h1 h2;subst h1;subst h2;show bindC kindOf ((p,w)::P.zip vs) m p=_;unfold bindC;rw[DK λv hv=>(fj.mp nd).1 (kZ hv).1,aD hk];simp
 |p::P,w::vs,i+1,m,nd,h1,h2,hk=>by
  show bindC kindOf ((p,w)::P.zip vs) m x=_;unfold bindC;exact DJ (i:=i) (fj.mp nd).2 (by simpa using h1) (by simpa using h2) hk
def start(N:List Str)(vs:List V):St:=vs.map some++List.replicate (N.length-vs.length) none
def Z0(CX:lY)(P:Program)(w:World)(K:PySem.W.Frag)(mg:Str->Option Value)(base:Heap)(N:List Str)(qual:Str)(scope:Scope)(f:Addr)(cd:Value)(A:Around)(outer:List Env)(s:Shared)(H:Hp)(E:XK):Cx where
 prog:=P
 w:=w
 K:=K
 mg:=mg
 base:=base
 A:=A.deeper (envOfC qual scope s.heap.objs.size f cd)
 N:=N
 cR:=s
 iA:=H
 env:=envOfC qual scope s.heap.objs.size f cd
 outer:=outer
 stack:=envOfC qual scope s.heap.objs.size f cd::outer
 ex:=[]
 calm:=true
 fn:=λ_=>true
 pn:=[]
 xe:=λe s'=>wpAny (model P w) (A.deeper (envOfC qual scope s.heap.objs.size f cd)) (leaving (envOfC qual scope s.heap.objs.size f cd) e) (λ_ mP=>CX outer H s E e mP) (λe' mP=>CX outer H s E e' mP) s'
theorem yW{sc:Scope}{n:Nat}(h:sc.names.lookup x=some .cell):∃c,(cellsFrom n sc.names []).lookup x=some c:=by
 have q:=da sc.names n [] (.inl h);exact dP.mp q
theorem TY{mg:Str->Option Value}{qual:Str}{scope:Scope}{cd:Value}{outer:List Env}{s1:Shared}{E:XK}(S:gW N ps scope)(hd:A.handled=none)(e0:pj P w K mg base A outer s H)(hl:vs.length=ps.length)(r:Vals vs us)(x:InCallC s s.heap.objs.size (bindL (envOfC qual scope s.heap.objs.size f cd).kindOf (ps.zip us) λ_=>none) (cellsFrom (s.heap.objs.size+1) scope.names []) (bindC (envOfC qual scope s.heap.objs.size f cd).kindOf (ps.zip us) λ_=>none) s1) :
  Inv (Z0 CX P w K mg base N qual scope f cd A outer s H E) [] (start N vs) H s1:=by
 have fO:ps.length<=N.length:=by have:=du List.length S.pre;rw[cg] at this;omega
 obtain⟨h1,tk,rfl,hk⟩:=x.done;have qT:∀b:Addr,b∉(Z0 CX P w K mg base N qual scope f cd A outer s H E).ex:=λb z=>absurd (show b∈([]:List Addr) from z) (by simp);refine ⟨⟨e0.mod,S.kind,rfl,rfl,aj _,λy z c h1 h2=>?_,λy hy=>?_,λy c _ h=>?_,λ_=>hd,Around.frames_deeper e0.frames,.inr ⟨rfl,rfl⟩,λb z=>absurd z (qT b),e0.bs,e0.lV,λb _ _=>qT b,λb z=>absurd z (qT b),e0.F9,e0.mw⟩,
  rfl,e0.bare,Un.kept hk,⟨_,x.toInCall.ns,λi y v h1 h2 h3=>?_⟩,λy c h=>⟨_,x.cell y c h⟩,e0.br.fresh (aj _),λy c h=>?_,λp hp=>absurd (show p ∈ ([]:List (Addr × Obj)) from hp) (by simp),e0.br.kept hk,?_⟩
 ·exact name_of_addr x.apart (aH h1) (aH h2)
 ·have hy:scope.names.lookup y=some .cell\/scope.names.lookup y=some .free:=hy;rcases hy with hy|hy
  ·exact yW hy
  ·exact absurd rfl (S.lA _ (aH hy))
 ·exact cL (x.above y c (aH h))
 ·have hi:i<vs.length:=by
   unfold start at h2;by_cases hi:i<vs.length
   ·exact hi
   ·rw[cD (by simpa using hi)] at h2;rw[cW] at h2;split at h2<;>cases h2
  have ha:vs[i]?=some v:=by
   unfold start at h2;rw[aG (by simpa using hi),aF] at h2;cases e:vs[i]? with
   |none=>rw[e] at h2;cases h2
   |some a=>rw[e] at h2;cases h2;rfl
  obtain⟨u,hu,rv⟩:=r.get ha;have hp:ps[i]?=some y:=by
   rw[<- S.pre,List.getElem?_take_of_lt (by omega)];exact h1
  have Be:ps.Nodup:=by rw[<- S.pre];exact S.nd.sublist (List.take_sublist _ _)
  refine⟨u,rv,?_⟩;rcases S.par y (bH hp) with k|k
  ·exact .inl ⟨k,DL Be hp hu k⟩
  ·obtain⟨c,e⟩:=yW (n:=s.heap.objs.size+1) k;refine .inr ⟨.inl k,c,e,?_⟩;have q:=x.cell y c e;rw[DJ Be hp hu (by show scope.names.lookup y≠_;rw[k];decide)] at q;exact q
 ·exact e0.br.fresh (cL (x.above y c (aH h)))
 ·unfold start;show _=N.length;rw[bt,ay,hU];omega
theorem QQ{mg:Str->Option Value}{name qual:Str}{params:Arguments}{scope:Scope}{dV kV doc pm fg ct oc:Value}{an od:Option Addr}{kR:Array (Option Value)}(lk:K.lookup f=some ⟨oc,od,.func (PySem.W.fnOf name qual params body scope dV kV doc pm an fg ct),kR⟩)(kC:PySem.W.codeIn K fg qual=true)(S:gW N ps scope)(len:∀vs H Q E,sp vs H Q E->vs.length=ps.length)(rX:∀ (A:Around) (outer:List Env) (s:Shared) (H:Hp) (vs:List V) (Q:VK) (E:XK),m6 k (A.deeper (envOfC qual scope s.heap.objs.size f fg))->sp vs H Q E ->
   ∃ t,ij (Z0 CX P w K mg base N qual scope f fg A outer s H E) body t/\t { nx:=λ_ H'=>Q .bc H',rt:=Q } (start N vs) H) :
  fV P w K mg base CX (k+1) f (PySem.W.fnOf name qual params body scope dV kV doc pm an fg ct) ps sp:=by
 refine⟨len,λA outer s H args us vs Q E hr e0 hb r pS=>?_⟩;have hl:=len _ _ _ _ pS;have KX:K.In s.heap:=e0.mod.lF.keeps λb o e=>(e0.bs b o e).1;have lim:s.heap.NoLimit:=e0.mod.nolimit.keeps λb o e=>(e0.bs b o e).1;have rK:∀y∈ps.zip us,scope.names.lookup y.1=some .local\/(scope.names.lookup y.1=some .cell/\((cellsFrom (s.heap.objs.size+1) scope.names []).lookup y.1).isSome=true):=λ⟨n,v⟩ hy=>by
  rcases S.par n (kZ hy).1 with q|q
  ·exact .inl q
  ·exact .inr ⟨q,da _ _ _ (.inl q)⟩
 refine codeAny_call_function hr.depth (KX _ _ lk) rfl S.co S.gen rfl (PySem.W.codeRec_of KX kC) (hb _ _ _ _ ?_);refine wpAny_newFunctionEnv_cells S.kind rK λenv he s1 x=>?_;subst he;refine⟨lim.keeps x.toInCall.keep,codeAny_func ?_⟩;obtain⟨t,ht,hq⟩:=rX A outer s H vs Q E (hr.deeper _) pS;have I:Inv (Z0 CX P w K mg base N qual scope f fg A outer s H E) [] (start N vs) H s1:=TY S hr.hd e0 hl r x;refine aV (ht [] s1 (start N vs) H _ I hq) (λfl s' hs=>?_) λe s' hs=>hs;have fin:∀{bL:St} {H':Hp} {v:V} {u:Value},Inv (Z0 CX P w K mg base N qual scope f fg A outer s H E) [] bL H' s'->RelV v u->Q v H'->CE outer P w H s Q u s' :=
  λ{bL H' v u} J rv q=>⟨v,H',J.os,J.bare,J.base,J.br,rv,q⟩
 cases fl with
 |ret u =>
  obtain⟨v,bL,H',J,rv,q⟩:=hs;exact fin J rv q
 |next =>
  obtain⟨bL,H',J,q⟩:=hs;exact fin (v:=V.bc) (u:=Value.none) J rfl q
 |brk =>
  obtain⟨_,_,_,q⟩:=hs;exact False.elim q
 |cont =>
  obtain⟨_,_,_,q⟩:=hs;exact False.elim q
section
variable{id T:String}{r:List V->Hp->VK->Prop}
def wq(r:List V->Hp->VK->Prop)(t:TA):TE:=λZ H Q=>t Z H λvs H1=>r vs H1 Q
theorem X6(hc:j5 X (.builtin id) r)(hg:Gl X x)(hm:X.mg x=none)(hv:bootBuiltins x=some (.builtin id))(ha:PA X (e::es) t)(hn:x≠"__name__":=by decide)(gq:(x==("__debug__":Str))=false:=by decide)(he:starEach (e::es) X.env=(false,eval e X.env)::starEach es X.env:=by rfl)(fO:(backTo pos (starEach es X.env)).any (·.1)=false:=by rfl):PE X (.Call (.Name x p) (e::es) [] pos) (wq r t):=by
 intro pins s Z H Q I h;refine cv (K6 I hg hm hv ?_ hn gq);exact PyProof.Rows.callWith_builtin1 (bS (ha pos pins s Z H _ I h) λus s1 ⟨vs,H1,I1,r1,q1⟩=>hc pins s1 Z H1 vs us Q I1 r1 q1) he fO
theorem M7(hc:j5 X (.type T) r)(hg:Gl X x)(hm:X.mg x=none)(hv:bootBuiltins x=some (.type T))(ha:PA X (e::es) t)(hn:x≠"__name__":=by decide)(gq:(x==("__debug__":Str))=false:=by decide)(he:starEach (e::es) X.env=(false,eval e X.env)::starEach es X.env:=by rfl)(fO:(backTo pos (starEach es X.env)).any (·.1)=false:=by rfl):PE X (.Call (.Name x p) (e::es) [] pos) (wq r t):=by
 intro pins s Z H Q I h;refine cv (K6 I hg hm hv ?_ hn gq);exact bB (bS (ha pos pins s Z H _ I h) λus s1 ⟨vs,H1,I1,r1,q1⟩=>hc pins s1 Z H1 vs us Q I1 r1 q1) he fO
end
end L2
namespace HT
open PySem PyProof.Rows
section
variable{prog:Program}{w:World}{A:Around}{E:Value->Shared->Prop}{s:Shared}
theorem Mx{t b:Addr}{vs ws:List Value}{Q:Value->Shared->Prop}(ht:IsTup s.heap t vs.toArray)(hb:IsTup s.heap b ws.toArray)(hv:vs≠[])(h1:ws=[]->Q (.ref t) s)(h2:ws≠[]->Q (.ref s.heap.objs.size) { s with heap:=s.heap.push { cls:=.type "tuple",data:=.seq (vs++ws).toArray } })(hsz:vs.length+ws.length<=sizeLine):wpAny (model prog w) A (binaryOp .Add (.ref t) (.ref b)) Q E s:=by
 obtain⟨⟨cls,dd,data,sl⟩,ho,hc,n,hd⟩:=id ht;obtain⟨⟨sL,nT,data2,jV⟩,jN,lP,n2,hd2⟩:=id hb;simp only at hc hd lP hd2;subst hc hd lP hd2;have e:vs.toArray++ws.toArray=(vs++ws).toArray:=by simp
 by_cases hw:ws=[]
 ·exact Zt ⟨_,ho,rfl⟩ ⟨_,jN,rfl⟩ ir kJ gJ gy (gb _ _)
   (tuple_addW1 t b vs.toArray ws.toArray n n2 dd nT sl jV (by simpa using hv) (by simp[hw])) ⟨ho,jN,h1 hw⟩
 ·refine Zt ⟨_,ho,rfl⟩ ⟨_,jN,rfl⟩ ir kJ gJ gy (gb _ _)
   (tuple_addW2 t b vs.toArray ws.toArray n n2 dd nT sl jV (by simpa using hv) (by simpa using hw) (by rw[av,av];exact hsz)) ⟨ho,jN,?_⟩
  rw[e];exact h2 hw
def df(n d:Nat):Option Int->Nat
 |none=>d
 |some v=>if v<0 then(v+(n:Int)).toNat else min v.toNat n
theorem Lm(n d:Nat)(hd:d<=n)(o:Option Int):df n d o<=n:=by
 cases o with
 |none=>exact hd
 |some v =>
  show(if v<0 then(v+(n:Int)).toNat else min v.toNat n)<=n;by_cases hv:v<0
  ·rw[aK hv];omega
  ·rw[aD hv];exact Nat.min_le_right _ _
theorem FN(v:Int)(n d:Nat):(if v<0 then max (v+(n:Int)) 0 else min v (n:Int))=((df n d (some v):Nat):Int):=by
 show(if v<0 then max (v+(n:Int)) 0 else min v (n:Int))=(((if v<0 then(v+(n:Int)).toNat else min v.toNat n):Nat):Int);by_cases hv:v<0
 ·simp only[if_pos hv];omega
 ·simp only[if_neg hv];omega
theorem UQ(lo hi:Option Int)(n:Nat):Builtin.Slice.sliceAdjust lo hi 1 (n:Int)=(((df n 0 lo:Nat):Int),((df n n hi:Nat):Int)):=by
 have h1:¬((1:Int)<0):=by omega
 unfold Builtin.Slice.sliceAdjust;simp only[h1,if_false];refine Prod.ext ?_ ?_
 ·cases lo with
  |none=>rfl
  |some v=>exact FN v n 0
 ·cases hi with
  |none=>rfl
  |some v=>exact FN v n n
theorem Vr(i j:Nat):Builtin.Slice.slicePlaces (i:Int) (j:Int) 1=j-i:=by
 unfold Builtin.Slice.slicePlaces;have h1:(1:Int)>0:=by omega
 simp only[h1,if_true,Int.ediv_one];split<;>omega
theorem EH{v:Value}{o:Option Int}{Q:Option Int->Shared->Prop}(p:IsPart v o)(h:Q o s):wpAny (model prog w) A (Builtin.Slice.slicePartIndex v) Q E s:=by
 cases p with
 |none=>exact slicePart_none h
 |int i t=>exact slicePart_int h
theorem P4{sl:Addr}{vl vu:Value}{lo hi:Option Int}{n:Nat}{Q:Int×Int×Nat->Shared->Prop}(hs:s.heap.IsSliceOf sl vl vu .none)(pl:IsPart vl lo)(pu:IsPart vu hi)(h:Q (((df n 0 lo:Nat):Int),1,df n n hi-df n 0 lo) s):wpAny (model prog w) A (Builtin.Slice.sliceApplied (.ref sl) (pure (n:Int))) Q E s:=by
 obtain⟨os,oJ,nK,rS⟩:=id hs;unfold Builtin.Slice.sliceApplied Builtin.Slice.sliceFields;refine aa (aa (jE oJ rS (x:=vl) rfl (aa (jE oJ rS (x:=vu) rfl (aa (jE oJ rS (x:=.none) rfl (ai ?_)))))));refine aa (slicePart_none ?_);show wpAny _ _ (if((1:Int)==0)=true then _ else _) _ _ s;rw[aD (by decide)];refine aa (EH pl (aa (EH pu (aa (ai ?_)))));show wpAny _ _ (match Builtin.Slice.sliceAdjust lo hi 1 (n:Int) with|(lo,hi)=>pure (lo,(1:Int),Builtin.Slice.slicePlaces lo hi 1)) _ _ s;rw[UQ lo hi n];show wpAny _ _ (pure (((df n 0 lo:Nat):Int),(1:Int),Builtin.Slice.slicePlaces ((df n 0 lo:Nat):Int) ((df n n hi:Nat):Int) 1)) _ _ s;rw[Vr];exact ai h
theorem XA(xs:Array Value)(i k:Nat):((List.range k).filterMap λ(m:Nat)=>xs[((i:Int)+(m:Int)*1).toNat]?).toArray=((xs.toList.drop i).take k).toArray:=by
 have e:(λ(m:Nat)=>xs[((i:Int)+(m:Int)*1).toNat]?)=λm=>xs[i+m]?:=by
  funext m
  have:((i:Int)+(m:Int)*1).toNat=i+m:=by omega
  rw[this]
 rw[e];have:=pick_run xs i k;rw[List.filterMap_map] at this;have e2:((λx=>xs[x]?) ∘ λx=>i+x)=λm=>xs[i+m]?:=rfl;rw[e2] at this;rw[this]
theorem Tp{t sl:Addr}{items:Array Value}{vl vu:Value}{lo hi:Option Int}{Q:Value->Shared->Prop}(ht:IsTup s.heap t items)(hs:s.heap.IsSliceOf sl vl vu .none)(pl:IsPart vl lo)(pu:IsPart vu hi)(hw:¬(df items.size 0 lo=0/\df items.size items.size hi=items.size))(h:Q (.ref s.heap.objs.size) { s with heap:=s.heap.push { cls:=.type "tuple",data:=.seq ((items.toList.drop (df items.size 0 lo)).take (df items.size items.size hi-df items.size 0 lo)).toArray } })(hsz:items.size<=sizeLine):wpAny (model prog w) A (getItem (.ref t) (.ref sl)) Q E s:=by
 have jY:sizeOk (.seq ((items.toList.drop (df items.size 0 lo)).take (df items.size items.size hi-df items.size 0 lo)).toArray):=by
  show((items.toList.drop (df items.size 0 lo)).take (df items.size items.size hi-df items.size 0 lo)).toArray.size<=sizeLine;rw[av,cg,gz,bP];omega
 have hj:df items.size items.size hi<=items.size:=Lm _ _ (aj _) hi;obtain⟨os,oJ,nK,rS⟩:=id hs;have xF:s.TypeIs (.ref sl) "slice":=⟨os,oJ,nK⟩
 unfold getItem
 try with_reducible refine bj ?_
 first|refine aa (ai ?_)|skip
 refine aa (wpAny_sequenceKey ht.typeIs (by decide) ?_);refine aa (eO (name:=Str.ofString "__getitem__") ht.typeIs bG
  (bD bG ht.typeIs entry_tuple_getitem ?_ (args_tuple_getitem _ _)))
 show wpAny _ _ (Builtin.Tuple.tupleItemsOf (.ref t) >>= _) _ _ s;refine aa (tupleItemsOf_ ht ?_);refine aa (cU xF ?_);rw[aK (by decide)];refine aa (P4 hs pl pu ?_);have jO:¬((((df items.size 0 lo:Nat):Int)==0&&(1:Int)==1&&(df items.size items.size hi-df items.size 0 lo)==items.size)=true):=by
  intro q;rw[aZ,aZ] at q;have q1:((df items.size 0 lo:Nat):Int)=0:=eq_of_beq q.1.1;have q2:df items.size items.size hi-df items.size 0 lo=items.size:=eq_of_beq q.2;exact hw ⟨by omega,by omega⟩
 show wpAny _ _ (if(((df items.size 0 lo:Nat):Int)==0&&(1:Int)==1&&(df items.size items.size hi-df items.size 0 lo)==items.size)=true then _ else _) _ _ s;rw[aD jO,XA]
 first
  |exact wpAny_bind (m:=Builtin.Tuple.tupleExact _) (wpAny_newObj_type (wpAny_pure ⟨_,rfl,wpAny_pure h⟩) jY)
  |exact wpAny_bind (m:=Builtin.Tuple.tupleExact _) (wpAny_newObj_type (wpAny_bind (wpAny_pure (wpAny_pure ⟨_,rfl,wpAny_pure h⟩))) jY)
  |exact wpAny_bind (wpAny_bind (m:=Builtin.Tuple.tupleExact _) (wpAny_newObj_type (wpAny_pure (wpAny_pure ⟨_,rfl,wpAny_pure h⟩)) jY))
  |exact wpAny_bind (wpAny_bind (m:=Builtin.Tuple.tupleExact _) (wpAny_newObj_type (wpAny_pure ⟨_,rfl,wpAny_pure h⟩) jY))
end
end HT
namespace L2
open PySem PySem.Spec PyProof.Rows
variable{X:Cx}{e:Expr}{pos:Pos}{n t':Nat}{α:Type}{a:Addr}{pins:List (Addr×Obj)}{Z:St}{H H':Hp}{s:Shared}{aL:List Value}{A:Around}{y x:V}{u:Value}{o:Option V}{w:World}{E:Value->Shared->Prop}{kvs:List (List Key×V)}{P:Program}
noncomputable abbrev TO:=St->Hp->(Option Int->Hp->Prop)->Prop
def PO(X:Cx)(e:Option Expr)(t:TO):Prop :=
 ∀(pins:List (Addr×Obj)) (s:Shared) (Z:St) (H:Hp) (Q:Option Int->Hp->Prop),Inv X pins Z H s->t Z H Q ->
  wpAny (model X.prog X.w) X.A (evalPart e X.env) (λu s'=>∃o H',Inv X pins Z H' s'/\IsPart u o/\Q o H') X.xe s
def Oj:TO:=λ_ H Q=>Q none H
def Sk(t:TE):TO:=λZ H Q=>t Z H λx H1=>∃i,x=.int i/\Q (some i) H1
section
variable{te:TE}{lo hi:Option Expr}{tl th:TO}{p2:Pos}
theorem vF:PO X none Oj:=by
 intro pins s Z H Q I h;rw[evalPart_none];exact ai ⟨none,H,I,.none,h⟩
theorem Gh(h:PE X e te):PO X (some e) (Sk te):=by
 intro pins s Z H Q I hw;rw[evalPart_some];refine bS (h pins s Z H _ I hw) λu s1 aS=>?_;obtain⟨x,H1,I1,r1,q1⟩:=aS;obtain⟨i,rfl,q⟩:=q1;obtain⟨t,rfl⟩:=r1;exact⟨some i,H1,I1,.int i t,q⟩
def tV(X:Cx)(r:V->Option Int->Option Int->Hp->VK->Prop):Prop :=
 ∀(pins:List (Addr×Obj)) (s:Shared) (Z:St) (H:Hp) (x:V) (v vl vu:Value) (lo hi:Option Int) (sl:Addr) (Q:VK),Inv X pins Z H s->RelV x v->s.heap.IsSliceOf sl vl vu .none->IsPart vl lo->IsPart vu hi->r x lo hi H Q ->
  ∃T id,typeLookup (.type T) "__getitem__"=pure (some (.builtin id))/\s.TypeIs v T/\wpAny (model X.prog X.w) X.A (getItem v (.ref sl)) (EP X pins Z Q) X.xe s
def Hh(r:V->Option Int->Option Int->Hp->VK->Prop)(te:TE)(tl th:TO):TE:=λZ H Q=>te Z H λx H1=>tl Z H1 λl H2=>th Z H2 λu H3=>r x l u H3 Q
theorem zf{r:V->Option Int->Option Int->Hp->VK->Prop}(hr:tV X r)(he:PE X e te)(hl:PO X lo tl)(hu:PO X hi th):PE X (.Subscript e (.Slice lo hi none p2) pos) (Hh r te tl th):=by
 intro pins s Z H Q I h;refine Subscript_ (bS (he pins s Z H _ I h) λv s1 aS=>?_);obtain⟨x,H1,I1,r1,q1⟩:=aS;refine wpAny_Slice (bS (hl pins s1 Z H1 _ I1 q1) λvl s2 ⟨l,H2,I2,pl,q2⟩=>bS (hu pins s2 Z H2 _ I2 q2) λvu s3 aS=>?_);obtain⟨u,H3,I3,pu,q3⟩:=aS;rw[evalPart_none];refine ai ?_;have I4:Inv X pins Z H3 { s3 with heap:=s3.heap.push { cls:=.type "slice",data:=.fields #[vl,vu,.none] } }:=I3.kept (t':=s3.toks) λb ob q=>ah _ q;obtain⟨T,id,hT,ht,hg⟩:=hr pins { s3 with heap:=s3.heap.push { cls:=.type "slice",data:=.fields #[vl,vu,.none] } } Z H3 x v vl vu l u s3.heap.objs.size Q I4 r1 (Heap.IsSliceOf.new ..) pl pu q3;show wpAny (model X.prog X.w) X.A (subscriptTail e (.Slice lo hi none p2) v (.ref s3.heap.objs.size)) (EP X pins Z Q) X.xe { s3 with heap:=s3.heap.push { cls:=.type "slice",data:=.fields #[vl,vu,.none] } };exact tail_any (ops:=[.ref s3.heap.objs.size,v]) ht hT hg (by with_unfolding_all rfl)
def Q9(xs:List V)(lo hi:Option Int):List V:=(xs.drop (HT.df xs.length 0 lo)).take (HT.df xs.length xs.length hi-HT.df xs.length 0 lo)
theorem EL(xs:List V)(lo hi:Option Int):(Q9 xs lo hi).length<=xs.length:=by
 unfold Q9;rw[cg,gz];omega
def PH(K:PySem.W.Frag):V->Option Int->Option Int->Hp->VK->Prop:=λx lo hi H Q=>∃a xs,x=.ref a/\gw K H a xs /\
 ¬(HT.df xs.length 0 lo=0/\HT.df xs.length xs.length hi=xs.length)/\∀p,H p=none->Q (.ref p) (upd H p (.tup (Q9 xs lo hi)))
theorem LF:tV X (PH X.K):=by
 intro pins s Z H x v vl vu lo hi sl Q I rx hs pl pu h;obtain⟨a,xs,rfl,hx,hw,q⟩:=h;cases rx;obtain⟨aL,r,ht,hz⟩:=I.tuple hx;have hlen:aL.toArray.size=xs.length:=by rw[av];exact r.length.symm
 refine⟨"tuple",_,bG.lookup,ht.typeIs,?_⟩;refine HT.Tp ht hs pl pu (by rw[hlen];exact hw) ?_ (by rw[hlen];exact hz);rw[hlen];refine⟨.ref s.heap.objs.size,_,I.laid (t':=s.toks) (o:=.tup (Q9 xs lo hi)) (λb ob q=>ah _ q) (aj _) ?_,rfl,q _ (I.br.fresh (aj _))⟩;exact⟨aI (EL xs lo hi) hz,_,(r.drop (HT.df xs.length 0 lo)).take (HT.df xs.length xs.length hi-HT.df xs.length 0 lo),F8.new _ _⟩
def RO(K:PySem.W.Frag):R2:=λx y H Q=>∃a b xs ys,x=.ref a/\y=.ref b/\gw K H a xs/\gw K H b ys/\xs≠[]/\xs.length+ys.length<=sizeLine /\
 (ys=[]->Q (.ref a) H)/\(ys≠[]->∀p,H p=none->Q (.ref p) (upd H p (.tup (xs++ys))))
theorem Vals.O8{xs:List V}{us:List Value}(r:Vals xs us):us=[]↔xs=[]:=by
 cases r with
 |nil=>simp
 |cons _ _=>simp
theorem Nd:eY X (binaryOp .Add) (RO X.K):=by
 intro pins s Z H x y v u Q I rx ry h;obtain⟨a,b,xs,ys,rfl,rfl,ha,hb,hx,hz,q1,q2⟩:=h;cases rx;cases ry;obtain⟨aL,r1,p1,_⟩:=I.tuple ha;obtain⟨lG,r2,p2,_⟩:=I.tuple hb;refine HT.Mx p1 p2 (λz=>hx (r1.O8.mp z)) (λz=>⟨.ref a,H,I,rfl,q1 (r2.O8.mp z)⟩) (λz=>?_) (by rw[<- r1.length,<- r2.length];exact hz);refine⟨.ref s.heap.objs.size,_,I.laid (t':=s.toks) (o:=.tup (xs++ys)) (λb ob q=>ah _ q) (aj _) ?_,rfl,q2 (λw=>z (r2.O8.mpr w)) _ (I.br.fresh (aj _))⟩;exact⟨by rw[bt];exact hz,_,r1.append r2,F8.new _ _⟩
end
def ml(n:Nat)(i:Int):Option Nat:=if 0<=i then(if i<n then some i.toNat else none) else if -(n:Int)<=i then some (i+n).toNat else none
def iF{α:Type}(xs:List α)(i:Int):Option α:=(ml xs.length i).bind λj=>xs[j]?
theorem FU{i:Int}{j:Nat}(h:ml n i=some j):seqIndex? i n=some j/\j<n/\-(n:Int)<=i/\i<n:=by
 unfold ml at h;by_cases h0:0<=i
 ·rw[aK h0] at h;by_cases h1:i<n
  ·rw[aK h1] at h;have e:i.toNat=j:=aB h;exact⟨by rw[seqIndex_of h0 h1,e],by omega,by omega,h1⟩
  ·rw[aD h1] at h;cases h
 ·rw[aD h0] at h;by_cases h1:-(n:Int)<=i
  ·rw[aK h1] at h;have e:(i+n).toNat=j:=aB h;exact⟨by rw[Zs (by omega) h1,e],by omega,h1,by omega⟩
  ·rw[aD h1] at h;cases h
theorem yM{xs:List α}{i:Int}{v:α}(h:iF xs i=some v):∃j,seqIndex? i xs.length=some j/\xs[j]?=some v/\j<xs.length/\-(xs.length:Int)<=i/\i<xs.length:=by
 unfold iF at h;cases e:ml xs.length i with
 |none=>rw[e] at h;cases h
 |some j =>
  rw[e] at h;obtain⟨h1,h2,h3,h4⟩:=FU e;exact⟨j,h1,h,h2,h3,h4⟩
theorem vq{xs:List α}{j:Nat}{v:α}(h:xs[j]?=some v):iF xs (j:Int)=some v:=by
 have hj:j<xs.length:=(ax.mp h).1;have e:ml xs.length (j:Int)=some j:=by
  unfold ml;rw[aK (by omega),aK (by omega)];simp
 unfold iF;rw[e];exact h
def yI(b:Expr):Prop:=∀o i,subscripted b false o i=operate [o,i] (getItem o i)
def pG(X:Cx)(r:R2):Prop :=
 ∀(value slice:Expr) (pins:List (Addr×Obj)) (s:Shared) (Z:St) (H:Hp) (x y:V) (v u:Value) (Q:VK),Inv X pins Z H s->RelV x v->RelV y u->r x y H Q ->
  subscripted slice false v u=operate [v,u] (getItem v u)->wpAny (model X.prog X.w) X.A (subscriptTail value slice v u) (EP X pins Z Q) X.xe s
def jR(X:Cx)(id:String)(r:V->List V->Hp->VK->Prop):Prop :=
 ∀(pins:List (Addr×Obj)) (s:Shared) (Z:St) (H:Hp) (x:V) (xs:List V) (v:Value) (us:List Value) (Q:VK),Inv X pins Z H s->RelV x v->Vals xs us->r x xs H Q ->
  wpAny (model X.prog X.w) X.A (call (.builtin id) (v::us)) (EP X pins Z Q) X.xe s
section
variable{a b:Expr}{ta tb:TE}
theorem CZ{r:R2}(hr:pG X r)(ha:PE X a ta)(hb:PE X b tb)(hs:yI b):PE X (.Subscript a b pos) (nz r ta tb):=by
 intro pins s Z H Q I h;exact Subscript_ (Aj ha hb I h λv u s2 x y H2 I2 rx ry q=>hr a b pins s2 Z H2 x y v u Q I2 rx ry q (hs _ _))
def Pt(K:PySem.W.Frag):R2:=λx y H Q=>∃p xs i v,x=.ref p/\y=.int i/\eT K H p xs/\iF xs i=some v/\Q v H
def Pw(K:PySem.W.Frag):R2:=λx y H Q=>∃p xs i v,x=.ref p/\y=.int i/\gw K H p xs/\iF xs i=some v/\Q v H
def Pu:R2:=λx y H Q=>∃z i c,x=.str z/\y=.int i/\z.length<=sizeLine/\iF z.cps.toList i=some c/\Q (.str ⟨#[c]⟩) H
theorem ML:pG X (Pt X.K):=by
 intro value slice pins s Z H x y v u Q I rx ry h hs;obtain⟨p,xs,i,z,rfl,rfl,hq,he,q⟩:=h;cases rx;obtain⟨t,rfl⟩:=ry;obtain⟨aL,r,pl,hz⟩:=I.list hq;obtain⟨j,h1,h2,h3,h4,h5⟩:=yM he;obtain⟨w,ew,eE⟩:=r.get h2;have hl:=r.length;have hn:=Q4;have fin:EP X pins Z Q w s:=⟨z,H,I,eE,q⟩
 by_cases h0:0<=i
 ·have hj:i.toNat=j:=by
   rw[seqIndex_of h0 h5] at h1;exact aB h1
  exact item_listR pl.isList h0 (by omega) (by rw[hj];simpa using ew) fin hs
 ·have hj:(i+(aL.toArray.size:Int)).toNat=j:=by
   rw[Zs (by omega) h4] at h1;rw[av,<- hl];exact aB h1
  exact subscriptTail_builtinR (x:=w) pl.isList.typeIs slot_list_getitem.lookup
   (wpAny_getItem_list_neg (Q:=λr s'=>r=w/\EP X pins Z Q r s') pl.isList (by omega) (by rw[av]<;>omega) (by omega) (by rw[hj];simpa using ew) ⟨rfl,fin⟩) hs
theorem Kb:pG X (Pw X.K):=by
 intro value slice pins s Z H x y v u Q I rx ry h hs;obtain⟨p,xs,i,z,rfl,rfl,hq,he,q⟩:=h;cases rx;obtain⟨t,rfl⟩:=ry;obtain⟨aL,r,pl,hz⟩:=I.tuple hq;obtain⟨j,h1,h2,h3,h4,h5⟩:=yM he;obtain⟨w,ew,eE⟩:=r.get h2;have hl:=r.length;have hn:=Q4;have fin:EP X pins Z Q w s:=⟨z,H,I,eE,q⟩
 exact subscriptTail_builtinR (x:=w) pl.typeIs slot_tuple_getitem.lookup
  (getItem_tuple (j:=j) (Q:=λr s'=>r=w/\EP X pins Z Q r s') pl (by omega) (by omega) (by rw[av,<- hl];exact h1) (by simpa using ew) ⟨rfl,fin⟩) hs
theorem Ka:pG X Pu:=by
 intro value slice pins s Z H x y v u Q I rx ry h hs;obtain⟨z,i,c,rfl,rfl,hz,he,q⟩:=h;obtain⟨t,rfl⟩:=rx;obtain⟨t',rfl⟩:=ry;obtain⟨j,h1,h2,h3,h4,h5⟩:=yM he;have hl:z.cps.toList.length=z.length:=by simp[Str.length]
 rw[hl] at h1 h4 h5;have hn:=Q4;exact tail_any (typeIs_str s z t) slot_str_getitem.lookup (getItem_str (c:=c) (by
  have e1:decide (i < -(2 ^ 63:Int))=false:=aR (by omega);have e2:decide (i>=2 ^ 63)=false:=aR (by omega);rw [e1,e2,Bool.or_false]) (by rw [h1];simpa using h2) ⟨.str ⟨#[c]⟩,H,I.tok _,⟨_,rfl⟩,q⟩) hs
theorem Vl(aL:List Value)(n j:Nat)(u:Value):Obj.mapSeq (·.setIfInBounds j u) { cls:=.type "list",data:=.seq aL.toArray n }={ cls:=.type "list",data:=.seq (aL.set j u).toArray n }:=by
 simp[Obj.mapSeq]
theorem Inv.lst{pins:List (Addr×Obj)}{Z:St}{H:Hp}{s:Shared}{p:Addr}{xs:List V}(I:Inv X pins Z H s)(h:H p=some (.lst xs)) :
  ∃(aL:List Value) (n:Nat),Vals xs aL/\s.heap.get? p=some { cls:=.type "list",data:=.seq aL.toArray n }/\xs.length<=sizeLine:=by
 obtain⟨z,aL,n,r,e⟩:=I.br p _ h;exact⟨aL,n,r,e,z⟩
theorem Inv.Kl{p:Addr}{xs ys:List V}{its':List Value}{n':Nat}{f:Obj->Obj}(I:Inv X pins Z H s)(h:H p=some (.lst xs))(ho:s.heap.get? p=some { cls:=.type "list",data:=.seq aL.toArray n })(hf:f { cls:=.type "list",data:=.seq aL.toArray n }={ cls:=.type "list",data:=.seq its'.toArray n' })(r:Vals ys its')(hz:ys.length<=sizeLine)(t:Nat) :
  Inv X pins Z (upd H p (.lst ys)) { s with heap:=s.heap.update p f,toks:=t }:=by
 have e:(s.heap.update p f).get? p=some { cls:=.type "list",data:=.seq its'.toArray n' }:=by
  rw[aW f ho (by rw[hf]<;>rfl),hf]
 refine I.write (x:=p) (e:=p) (by rw[h];trivial) (.inl rfl) (λb u hb q=>(bR _ _ (bg hb)).trans q) ⟨_,e⟩ ?_;exact⟨hz,its',n',r,e⟩
def RS:V->V->V->Hp->(Hp->Prop)->Prop:=λo i v H Q=>∃p xs k j,o=.ref p/\i=.int k/\H p=some (.lst xs)/\ml xs.length k=some j/\Q (upd H p (.lst (xs.set j v)))
theorem set_list:Ag X RS:=by
 intro pins s Z H o i v ov iv u Q I ro ri rv h;obtain⟨p,xs,k,j,rfl,rfl,hp,hj,q⟩:=h;cases ro;obtain⟨t,rfl⟩:=ri;obtain⟨aL,n,r,ho,hz⟩:=I.lst hp;obtain⟨h1,h2,h3,h4⟩:=FU hj;have hl:=r.length;have hn:=Q4;have I':Inv X pins Z (upd H p (.lst (xs.set j v))) { s with heap:=s.heap.update p (Obj.mapSeq (·.setIfInBounds j u)) } :=
  I.Kl hp ho (Vl aL n j u) (r.set rv j) (by rw[List.length_set];exact hz) s.toks
 by_cases h0:0<=k
 ·have hk:k.toNat=j:=by
   rw[seqIndex_of h0 h4] at h1;exact aB h1
  exact PySem.W.ki_setAt ho h0 (by omega) (by rw[av,<- hl];exact h4) (by rw[hk];exact⟨_,I',q⟩)
 ·have hk:(k+(aL.toArray.size:Int)).toNat=j:=by
   rw[Zs (by omega) h3] at h1;rw[av,<- hl];exact aB h1
  exact PySem.W.ki_setBack ho (by omega) (by rw[av,<- hl];exact h3) (by omega) (by rw[hk];exact⟨_,I',q⟩)
theorem SI(lo hi:Option Int)(n:Nat):(sliceBounds lo hi none n).1=((HT.df n 0 lo:Nat):Int)/\(sliceBounds lo hi none n).2.1=((HT.df n n hi:Nat):Int)/\(sliceBounds lo hi none n).2.2=1:=by
 refine⟨?_,?_,rfl⟩
 ·cases lo with
  |none=>simp[sliceBounds,HT.df]
  |some i =>
   simp only[sliceBounds,HT.df,Option.getD_none,show(1:Int)>0 by decide,if_true];by_cases h:i<0
   ·simp only[h,if_true]<;>omega
   ·simp only[h,if_false]<;>omega
 ·cases hi with
  |none=>simp[sliceBounds,HT.df]
  |some i =>
   simp only[sliceBounds,HT.df,Option.getD_none,show(1:Int)>0 by decide,if_true];by_cases h:i<0
   ·simp only[h,if_true]<;>omega
   ·simp only[h,if_false]<;>omega
theorem SX(aL:List Value)(lo hi:Option Int):slicePick aL.toArray lo hi none=((aL.drop (HT.df aL.length 0 lo)).take (HT.df aL.length aL.length hi-HT.df aL.length 0 lo)).toArray:=by
 obtain⟨h1,h2,h3⟩:=SI lo hi aL.toArray.size;unfold slicePick;rw[h1,h2,h3];simp only[sliceRange_one,pick_run,List.size_toArray]<;>rfl
def PD(K:PySem.W.Frag):V->Option Int->Option Int->Hp->VK->Prop:=λx lo hi H Q=>∃a xs,x=.ref a/\eT K H a xs/\∀p,H p=none->Q (.ref p) (upd H p (.lst (Q9 xs lo hi)))
theorem Oa:tV X (PD X.K):=by
 intro pins s Z H x v vl vu lo hi sl Q I rx hs pl pu h;obtain⟨a,xs,rfl,hx,q⟩:=h;cases rx;obtain⟨aL,r,ht,hz⟩:=I.list hx;have hlen:=r.length;refine⟨"list",_,slot_list_getitem.lookup,ht.isList.typeIs,?_⟩;refine wpAny_getItem_list_slice ht.isList hs pl pu .none (by simp) ?_ (by rw[av]<;>omega);rw[SX,<- hlen];refine⟨.ref s.heap.objs.size,_,I.laid (t':=s.toks) (o:=.lst (Q9 xs lo hi)) (λb ob q=>ah _ q) (aj _) ?_,rfl,q _ (I.br.fresh (aj _))⟩;exact⟨aI (EL xs lo hi) hz,_,0,(r.drop (HT.df xs.length 0 lo)).take (HT.df xs.length xs.length hi-HT.df xs.length 0 lo),au _ rfl⟩
def C9:V->Bool
 |.bc=>true
 |.bl _=>true
 |.int _=>true
 |.str _=>true
 |_=>false
def kF:V->V->Bool
 |.bc,.bc=>true
 |.bl a,.bl b=>a==b
 |.bl a,.int b=>(if a then 1 else 0)==b
 |.int a,.bl b=>a==(if b then 1 else 0)
 |.int a,.int b=>a==b
 |.str a,.str b=>a==b
 |_,_=>false
theorem JT{v:Value}(ry:RelV y u)(rx:RelV x v)(fy:C9 y=true)(fx:C9 x=true):SeqAt.EqAt A s u v (kF y x):=by
 cases y with
 |bc =>
  cases ry;cases x with
  |bc=>cases rx;exact SeqAt.EqAt.same _
  |bl b=>cases rx;exact SeqAt.EqAt.none_bool b
  |int b=>obtain⟨t,rfl⟩:=rx;exact SeqAt.EqAt.none_int b t
  |str b=>obtain⟨t,rfl⟩:=rx;exact SeqAt.EqAt.none_str b t
  |_=>exact absurd (show false=true from fx) Bool.false_ne_true
 |bl a =>
  cases ry;cases x with
  |bc=>cases rx;exact SeqAt.EqAt.bool_none a
  |bl b=>cases rx;exact SeqAt.EqAt.bool_bool a b
  |int b=>obtain⟨t,rfl⟩:=rx;exact SeqAt.EqAt.bool_int a b t
  |str b=>obtain⟨t,rfl⟩:=rx;exact SeqAt.EqAt.bool_str a b t
  |_=>exact absurd (show false=true from fx) Bool.false_ne_true
 |int a =>
  obtain⟨t',rfl⟩:=ry;cases x with
  |bc=>cases rx;exact SeqAt.EqAt.int_none a t'
  |bl b=>cases rx;exact SeqAt.EqAt.int_bool a t' b
  |int b=>obtain⟨t,rfl⟩:=rx;exact SeqAt.EqAt.int_int a t' b t
  |str b=>obtain⟨t,rfl⟩:=rx;exact SeqAt.EqAt.int_str a t' b t
  |_=>exact absurd (show false=true from fx) Bool.false_ne_true
 |str a =>
  obtain⟨t',rfl⟩:=ry;cases x with
  |bc=>cases rx;exact SeqAt.EqAt.str_none a t'
  |bl b=>cases rx;exact SeqAt.EqAt.str_bool a t' b
  |int b=>obtain⟨t,rfl⟩:=rx;exact SeqAt.EqAt.str_int a t' b t
  |str b=>obtain⟨t,rfl⟩:=rx;exact SeqAt.EqAt.str_str a t' b t
  |_=>exact absurd (show false=true from fx) Bool.false_ne_true
 |_=>exact absurd (show false=true from fy) bu
def kG(x:V)(u:Value):Bool:=match u with
 |.none=>kF .bc x
 |.bool b=>kF (.bl b) x
 |.int i _=>kF (.int i) x
 |.str z _=>kF (.str z) x
 |_=>false
theorem ve(r:RelV y u)(f:C9 y=true):kG x u=kF y x:=by
 cases y with
 |bc=>cases r;rfl
 |bl b=>cases r;rfl
 |int i=>obtain⟨t,rfl⟩:=r;rfl
 |str z=>obtain⟨t,rfl⟩:=r;rfl
 |_=>exact absurd (show false=true from f) bu
theorem yK{x:V}:∀{xs:List V} {us:List Value},Vals xs us->xs.all C9=true->us.any (kG x)=xs.any λy=>kF y x
 |_,_,.nil,_=>rfl
 |y::xs,u::us,.cons r t,f=>by
  rw[gf,aZ] at f;rw[eZ,eZ,ve r f.1,yK t f.2]
theorem Q1{A:Around}{s:Shared}{x:V}{v:Value}(rx:RelV x v)(fx:C9 x=true):∀{xs:List V} {us:List Value},Vals xs us->xs.all C9=true->∀u∈us,SeqAt.EqAt A s u v (kG x u)
 |_,_,.nil,_=>λu hu=>by cases hu
 |y::xs,u::us,.cons r t,f=>λu' hu=>by
  rw[gf,aZ] at f;rcases aw.mp hu with rfl|hu
  ·rw[ve r f.1];exact JT r rx f.1 fx
  ·exact Q1 rx fx t f.2 u' hu
def uz(x:V)(xs:List V):Bool:=xs.any λy=>kF y x
def wz(K:PySem.W.Frag)(neg:Bool):R2:=λx y H Q=>∃p xs,y=.ref p/\(eT K H p xs\/gw K H p xs)/\C9 x=true/\xs.all C9=true/\Q (.bl (if neg then !uz x xs else uz x xs)) H
theorem SF:eY X (compareOp .NotIn) (wz X.K true):=by
 intro pins s Z H x y v u Q I rx ry h;obtain⟨p,xs,rfl,hq,fx,fs,q⟩:=h;cases ry;rcases hq with hq|hq
 ·obtain⟨aL,r,pl,hz⟩:=I.list hq;refine SeqAt.notIn_listAt (kG x) pl.isList (λw hw=>Q1 rx fx r fs w (by simpa using hw)) ⟨.bl _,H,I,rfl,?_⟩;rw[show aL.toArray.any (kG x)=aL.any (kG x) by simp,yK r fs];exact q
 ·obtain⟨aL,r,pl,hz⟩:=I.tuple hq;refine SeqAt.notIn_tupleAt (kG x) pl (λw hw=>Q1 rx fx r fs w (by simpa using hw)) ⟨.bl _,H,I,rfl,?_⟩;rw[show aL.toArray.any (kG x)=aL.any (kG x) by simp,yK r fs];exact q
theorem Wm:j5 X (.builtin "len") (λxs H Q=>∃p ys,xs=[.ref p]/\(eT X.K H p ys\/gw X.K H p ys)/\Q (.int ys.length) H):=by
 intro pins s Z H xs us Q I r h;obtain⟨p,ys,rfl,hq,q⟩:=h;obtain⟨u,rfl,rx⟩:=vals1 r;cases rx;have hn:=Q4;rcases hq with hq|hq
 ·obtain⟨aL,r',pl,hz⟩:=I.list hq;have hlen:=r'.length;exact Calls.call_len_list pl.isList (by simp only[List.size_toArray]<;>omega) ⟨.int ys.length,H,I.tok _,⟨s.toks+1,by rw[av,hlen]⟩,q⟩
 ·obtain⟨aL,r',pl,hz⟩:=I.tuple hq;have hlen:=r'.length;exact len_tuple pl (by simp only[List.size_toArray]<;>omega) ⟨.int ys.length,H,I.tok _,⟨s.toks+1,by rw[av,hlen]⟩,q⟩
theorem Wn:j5 X (.builtin "len") (λxs H Q=>∃z,xs=[.str z]/\z.length<=sizeLine/\Q (.int z.length) H):=by
 intro pins s Z H xs us Q I r h;obtain⟨z,rfl,hz,q⟩:=h;obtain⟨u,rfl,t,rfl⟩:=vals1 r;have hn:=Q4;exact len_str (by omega) ⟨.int z.length,H,I.tok _,⟨_,rfl⟩,q⟩
theorem Wq:j5 X (.type "list") (λxs H Q=>∃p ys,xs=[.ref p]/\(eT X.K H p ys\/gw X.K H p ys)/\∀l,H l=none->Q (.ref l) (upd H l (.lst ys))):=by
 intro pins s Z H xs us Q I r h;obtain⟨p,ys,rfl,hq,q⟩:=h;obtain⟨u,rfl,rx⟩:=vals1 r;cases rx;have fin:∀(aL:List Value),Vals ys aL->ys.length<=sizeLine->∀(h':Heap) (c':Nat),(∀b o',s.heap.get? b=some o'->h'.get? b=some o') ->
   h'.get? s.heap.objs.size=some { cls:=.type "list",dict:=none,data:=.seq aL.toArray c',slots:=#[] }->EP X pins Z Q (.ref s.heap.objs.size) { s with heap:=h' }:=λaL r' hz h' c' kp e =>
  ⟨.ref s.heap.objs.size,_,I.laid (t':=s.toks) kp (aj _) (show j4 X.prog X.w _ h' _ (.lst ys) from⟨hz,aL,c',r',e⟩),rfl,q _ (I.br.fresh (aj _))⟩
 rcases hq with hq|hq
 ·obtain⟨aL,r',pl,hz⟩:=I.list hq;have hlen:=r'.length;obtain⟨o,ho,hc,n,hd⟩:=pl.isList;exact call_list_seq p (.inl rfl) ho hc hd (λh' c' kp e=>fin aL r' hz h' c' kp e) (by simp only[List.size_toArray]<;>omega)
 ·obtain⟨aL,r',pl,hz⟩:=I.tuple hq;have hlen:=r'.length;obtain⟨o,ho,hc,n,hd⟩:=pl;exact call_list_seq p (.inr rfl) ho hc hd (λh' c' kp e=>fin aL r' hz h' c' kp e) (by simp only[List.size_toArray]<;>omega)
theorem SN:j5 X (.type "tuple") (λxs H Q=>∃p ys,xs=[.ref p]/\((eT X.K H p ys/\∀l,H l=none->Q (.ref l) (upd H l (.tup ys)))\/(gw X.K H p ys/\Q (.ref p) H))):=by
 intro pins s Z H xs us Q I r h;obtain⟨p,ys,rfl,h⟩:=h;obtain⟨u,rfl,rx⟩:=vals1 r;cases rx;rcases h with⟨hq,q⟩|⟨hq,q⟩
 ·obtain⟨aL,r',pl,hz⟩:=I.list hq;have hlen:=r'.length;refine call_tuple_list pl.isList (λh' kp=>?_) (by simp only[List.size_toArray]<;>omega);have I1:Inv X pins Z H { s with heap:=h' }:=I.kept (t':=s.toks) kp;have I2:Inv X pins Z (upd H h'.objs.size (.tup ys)) { s with heap:=h'.push { cls:=.type "tuple",data:=.seq aL.toArray } } :=
   I1.laid (t':=s.toks) (λb o e=>ah _ e) (aj _) (show j4 X.prog X.w _ _ _ (.tup ys) from⟨hz,aL,r',F8.new _ _⟩)
  exact⟨.ref h'.objs.size,_,I2,rfl,q _ (I1.br.fresh (aj _))⟩
 ·obtain⟨aL,r',pl,hz⟩:=I.tuple hq;exact call_tuple_same pl ⟨.ref p,H,I,rfl,q⟩
def lZ(K:PySem.W.Frag)(T:String)(x:V)(H:Hp):Prop:=match x with
 |.str _=>T="str"
 |.int _=>T="int"
 |.ref p=>(T="list"/\∃xs,eT K H p xs)\/(T="tuple"/\∃o,K.lookup p=some o/\o.cls=.type "tuple"/\o.dict=none) \/
   (T="dict"/\((∃kvs,H p=some (.dK kvs))\/∃kvs,H p=some (.dT kvs)))\/(T="set"/\∃S n,H p=some (.set S n))
 |_=>False
theorem FH{T:String}{v:Value}(I:Inv X pins Z H s)(r:RelV x v)(ty:lZ X.K T x H) :
  s.TypeIs v T/\∀a,v=.ref a->∃ob,s.heap.get? a=some ob/\ob.dict=none:=by
 cases x with
 |str z =>
  obtain⟨t,rfl⟩:=r;cases (show T="str" from ty);exact⟨typeIs_str s z t,λ_ e=>nomatch e⟩
 |int i =>
  obtain⟨t,rfl⟩:=r;cases (show T="int" from ty);exact⟨kY s i t,λ_ e=>nomatch e⟩
 |ref p =>
  cases r;rcases ty with⟨rfl,xs,hq⟩|⟨rfl,o,hk,hc,hd⟩|⟨rfl,hk⟩|⟨rfl,S,n,hk⟩
  ·obtain⟨aL,_,pl,_⟩:=I.list hq;refine⟨pl.isList.typeIs,λa e=>?_⟩;cases e;obtain⟨o,n,e,c,hd,_⟩:=pl;exact⟨o,e,hd⟩
  ·refine⟨⟨o,I.fE p o hk,hc⟩,λa e=>?_⟩;cases e;exact⟨o,I.fE _ o hk,hd⟩
  ·have z:∃o,s.heap.get? p=some o/\o.ExactDict:=by
    rcases hk with⟨kvs,hk⟩|⟨kvs,hk⟩
    ·obtain⟨_,_,_,_,o,_,_,e,ex,_⟩:=I.br p _ hk;exact⟨o,e,ex⟩
    ·obtain⟨_,_,_,_,o,_,_,e,ex,_⟩:=I.br p _ hk;exact⟨o,e,ex⟩
   obtain⟨o,e,ex⟩:=z;refine⟨⟨o,e,ex.1⟩,λa e2=>?_⟩;cases e2;exact⟨o,e,ex.2.1⟩
  ·obtain⟨o,_,_,_,e,ex,_⟩:=I.br p _ hk;refine⟨⟨o,e,ex.1⟩,λa e2=>?_⟩;cases e2;exact⟨o,e,ex.2.1⟩
 |_=>exact False.elim ty
def Qb(K:PySem.W.Frag)(T:String)(r:V->List V->Hp->VK->Prop)(to:TE):TE:=λZ H Q=>to Z H λx H1=>lZ K T x H1/\r x [] H1 Q
def Hk(K:PySem.W.Frag)(T:String)(r:V->List V->Hp->VK->Prop)(to:TE)(t:TA):TE:=λZ H Q=>to Z H λx H1=>lZ K T x H1/\t Z H1 λxs H2=>r x xs H2 Q
variable{o:Expr}{es:List Expr}{to:TE}{t:TA}{name:Str}{apos dy:Pos}{T id:String}{r:V->List V->Hp->VK->Prop}
theorem KI(pa:PlainAttrs T)(slot:Slot T name id)(oH:typeOf (.builtin id)=pure (.type "method_descriptor"))(hm:jR X id r)(ho:PE X o to)(eX:attributeBase o name X.env (eval o X.env)=eval o X.env:=by rfl)(eW:(apos.endLine==dy.line)=true:=by rfl):PE X (.Call (.Attribute o name apos) [] [] dy) (Qb X.K T r to):=by
 intro pins s Z H Q I h;refine wpAny_Call_method0_late eX eW (bS (ho pins s Z H _ I h) λv s1 aS=>?_);obtain⟨x,H1,I1,r1,ty,q1⟩:=aS;obtain⟨h1,h2⟩:=FH I1 r1 ty;exact⟨T,id,pa,slot,oH,h1,h2,ff rfl (AA (hm pins s1 Z H1 x [] v [] Q I1 r1 .nil q1))⟩
theorem RD(pa:PlainAttrs T)(slot:Slot T name id)(oH:typeOf (.builtin id)=pure (.type "method_descriptor"))(hm:jR X id r)(ho:PE X o to)(ha:PA X (e::es) t)(eX:attributeBase o name X.env (eval o X.env)=eval o X.env:=by rfl)(jP:((backTo dy (starEach (e :: es) X.env)).all (λx=>!x.1) && (backToKw dy (keywordEach [] X.env)).all (λx=>x.1.isSome)
   && decide ((e :: es).length + ([]:List Keyword).length + (if ([]:List Keyword).isEmpty then 0 else 1) < 30))=true:=by rfl)(eW:(apos.endLine==dy.line)=true:=by rfl)(hs:starEach (e::es) X.env=(false,eval e X.env)::starEach es X.env:=by rfl)(dR:(backTo dy (starEach es X.env)).any (·.1)=false:=by rfl) :
  PE X (.Call (.Attribute o name apos) (e::es) [] dy) (Hk X.K T r to t):=by
 intro pins s Z H Q I h;refine Zr eX jP eW rfl (bS (ho pins s Z H _ I h) λv s1 aS=>?_);obtain⟨x,H1,I1,r1,ty,q1⟩:=aS;obtain⟨h1,h2⟩:=FH I1 r1 ty;refine⟨T,id,pa,slot,oH,h1,h2,?_⟩;have hA:=ha dy pins s1 Z H1 _ I1 q1;rw[hs] at hA ⊢;refine ff (by show(false||(backTo dy (starEach es X.env)).any (·.1))=false;rw[dR]<;>rfl) (fK ?_);exact bS hA λus s2 ⟨vs,H2,I2,r2,q2⟩=>hm pins s2 Z H2 x vs v us Q I2 r1 r2 q2
end
def vT(X:Cx)(id:String)(r:V->List V->Hp->VK->Prop):Prop :=
 ∀(pins:List (Addr×Obj)) (s:Shared) (Z:St) (H:Hp) (x:V) (xs:List V) (v:Value) (us:List Value) (Q:VK),Inv X pins Z H s->RelV x v->Vals xs us->r x xs H Q ->
  wpAny (model X.prog X.w) X.A (call (.builtin id) (v::us)) (EP X pins Z Q) X.xe s
theorem Vals.one{us:List Value}(h:Vals [x] us):∃u,us=[u]/\RelV x u:=by
 cases h with
 |cons r h =>
  cases h;exact⟨_,rfl,r⟩
theorem Vals.zero:∀{us:List Value},Vals [] us->us=[]
 |_,.nil=>rfl
theorem Vals.dropLast{xs:List V}{us:List Value}(h:Vals xs us):Vals xs.dropLast us.dropLast:=by
 induction h with
 |nil=>exact .nil
 |cons r t ih =>
  cases t with
  |nil=>exact .nil
  |cons q t'=>exact .cons r ih
theorem Vals.eraseIdx:∀{xs:List V} {us:List Value} (i:Nat),Vals xs us->Vals (xs.eraseIdx i) (us.eraseIdx i)
 |_,_,_,.nil=>.nil
 |_,_,0,.cons _ t=>t
 |_,_,i+1,.cons r t=>.cons r (Vals.eraseIdx i t)
theorem Vals.reverse{xs:List V}{us:List Value}(h:Vals xs us):Vals xs.reverse us.reverse:=by
 induction h with
 |nil=>exact .nil
 |cons r t ih=>rw[fX,fX];exact Vals.append ih (.cons r .nil)
theorem Vals.rep{xs:List V}{us:List Value}(h:Vals xs us):∀k:Nat,Vals (List.replicate k xs).flatten (List.replicate k us).flatten
 |0=>.nil
 |k+1=>by
  rw[bO,bO,cN,cN];exact Vals.append h (Vals.rep h k)
theorem UX(l:List α):l.eraseIdx (l.length-1)=l.dropLast:=by
 induction l with
 |nil=>rfl
 |cons a r ih =>
  cases r with
  |nil=>rfl
  |cons b r =>
   have e:(a::b::r).length-1=((b::r).length-1)+1:=by
    have h1:(a::b::r).length=r.length+2:=rfl;have h2:(b::r).length=r.length+1:=rfl;omega
   rw[e,List.eraseIdx_cons_succ,ih]
   all_goals rfl
theorem DW{α:Type}:∀(l:List α) (i:Nat),(l.eraseIdx i).length<=l.length
 |[],_=>aj _
 |_::_,0=>fe _
 |_::r,i+1=>Nat.succ_le_succ (DW r i)
theorem foldl_rep(aL:List Value):∀(k:Nat) (acc:List Value),
  List.foldl (λx1 x2=>x1++x2) acc.toArray (List.replicate k aL.toArray)=(acc++(List.replicate k aL).flatten).toArray
 |0,acc=>by simp
 |k+1,acc=>by
  have e:acc.toArray++aL.toArray=(acc++aL).toArray:=by simp
  have e2:(acc++aL)++(List.replicate k aL).flatten=acc++(List.replicate (k+1) aL).flatten:=by
   rw[bO,cN,eI]
  rw[<- e2,<- foldl_rep aL k (acc++aL),<- e,bO,List.foldl_cons]
section
variable{l:Addr}{xs ys:List V}
theorem Inv.U0{its':List Value}{f:Array Value->Array Value}{t':Nat}(I:Inv X pins Z H s)(hH:H l=some (.lst xs))(e:s.heap.get? l=some { cls:=.type "list",data:=.seq aL.toArray n })(hf:f aL.toArray=its'.toArray)(hv:Vals ys its')(hz:ys.length<=sizeLine) :
  Inv X pins Z (upd H l (.lst ys)) { s with heap:=s.heap.update l (Obj.mapSeq f),toks:=t' }:=by
 have q:=Zw e f;rw[hf] at q;refine I.write (x:=l) (e:=l) (by rw[hH];exact trivial) (.inl rfl) (λb' u hb hu=>(bR s.heap (Obj.mapSeq f) (bg hb)).trans hu) ⟨_,q⟩ ?_;exact⟨hz,its',_,hv,q⟩
theorem Inv.Ci{t':Nat}(I:Inv X pins Z H s)(hv:Vals ys aL)(hz:ys.length<=sizeLine) :
  Inv X pins Z (upd H s.heap.objs.size (.lst ys)) { s with heap:=s.heap.push { cls:=.type "list",data:=.seq aL.toArray },toks:=t' } :=
 I.laid (λ_ _ q=>ah _ q) (aj _) ⟨hz,aL,0,hv,au _ rfl⟩
theorem Inv.fresh(I:Inv X pins Z H s):H s.heap.objs.size=none:=I.br.fresh (aj _)
theorem Inv.pz(I:Inv X pins Z H s)(hH:H l=some (.lst xs)):xs.length<=sizeLine/\∃(aL:List Value) (n:Nat),Vals xs aL/\xs.length=aL.length/\s.heap.get? l=some { cls:=.type "list",data:=.seq aL.toArray n }:=by
 obtain⟨z,aL,n,r,e⟩:=I.br l _ hH;exact⟨z,aL,n,r,r.length,e⟩
theorem Xk(h:n<=sizeLine):Builtin.List.listTooLong n=false:=by
 unfold Builtin.List.listTooLong;exact aR (by omega)
end
def NH:V->List V->Hp->VK->Prop:=λx vs H Q=>∃l xs y,x=.ref l/\vs=[y]/\H l=some (.lst xs)/\xs.length<sizeLine/\Q .bc (upd H l (.lst (xs++[y])))
theorem Ul:vT X "list.append" NH:=by
 intro pins s Z H x vs v us Q I rx rv h;obtain⟨l,xs,y,rfl,rfl,hH,hz,q⟩:=h;cases rx;obtain⟨u,rfl,ru⟩:=rv.one;obtain⟨z,aL,n,r,hl,e⟩:=I.pz hH;refine cK F.slot_list_append ⟨_,e,rfl⟩ F.entry_list_append (F.args_list_append_2 _ _) (Yv l aL.toArray n u (by rw[av];omega)) ⟨e,?_⟩;refine⟨.bc,_,I.U0 (its':=aL++[u]) hH e (by simp) (r.append (.cons ru .nil)) ?_,rfl,q⟩;rw[bt,hJ];omega
def Px:V->List V->Hp->VK->Prop:=λx vs H Q=>∃l xs y,x=.ref l/\vs=[]/\H l=some (.lst xs)/\xs[xs.length-1]?=some y/\Q y (upd H l (.lst xs.dropLast))
theorem Kp:vT X "list.pop" Px:=by
 intro pins s Z H x vs v us Q I rx rv h;obtain⟨l,xs,y,rfl,rfl,hH,hy,q⟩:=h;cases rx;have xb:=rv.zero;subst xb;obtain⟨z,aL,n,r,hl,e⟩:=I.pz hH;obtain⟨u,hu,ru⟩:=r.get hy;have wX:aL.toArray[aL.toArray.size-1]?=some u:=by
  show aL.toArray[aL.length-1]?=some u;rw[<- eQ,<- hl];exact hu
 refine cK F.slot_list_pop ⟨_,e,rfl⟩ F.entry_list_pop (F.args_list_pop_1 _) (MeetsSeq.list_pop_last l aL.toArray n u wX (by rw[av];omega)) ⟨e,?_⟩;refine⟨y,_,I.U0 (its':=aL.dropLast) hH e ?_ r.dropLast ?_,ru,q⟩
 ·show aL.toArray.eraseIdxIfInBounds (aL.toArray.size-1)=aL.dropLast.toArray;rw[av,jU,UX]
 ·rw[List.length_dropLast];omega
def Lj:V->List V->Hp->VK->Prop:=λx vs H Q=>∃l xs i k y,x=.ref l/\vs=[.int i]/\H l=some (.lst xs)/\-(2 ^ 63)<=i/\i<2 ^ 63/\seqIndex? i xs.length=some k/\xs[k]?=some y/\Q y (upd H l (.lst (xs.eraseIdx k)))
theorem Xh:vT X "list.pop" Lj:=by
 intro pins s Z H x vs v us Q I rx rv h;obtain⟨l,xs,i,k,y,rfl,rfl,hH,h1,h2,hk,hy,q⟩:=h;cases rx;obtain⟨u,rfl,ru⟩:=rv.one;obtain⟨t,rfl⟩:=ru;obtain⟨z,aL,n,r,hl,e⟩:=I.pz hH;obtain⟨w,hw,eE⟩:=r.get hy;refine cK F.slot_list_pop ⟨_,e,rfl⟩ F.entry_list_pop (F.args_list_pop_2 _ _)
  (MeetsSeq.list_pop_at l aL.toArray n i t k w (fitsIndex_both h1 h2) (by rw[av,<- hl];exact hk) (by rw[<- eQ];exact hw) (by rw[av];omega)) ⟨e,?_⟩
 refine⟨y,_,I.U0 (its':=aL.eraseIdx k) hH e ?_ (r.eraseIdx k) ?_,eE,q⟩
 ·show aL.toArray.eraseIdxIfInBounds k=(aL.eraseIdx k).toArray;rw[jU]
 ·have:=DW xs k;omega
def Li:V->List V->Hp->VK->Prop:=λx vs H Q=>∃l xs,x=.ref l/\vs=[]/\H l=some (.lst xs)/\Q .bc (upd H l (.lst []))
theorem Xg:vT X "list.clear" Li:=by
 intro pins s Z H x vs v us Q I rx rv h;obtain⟨l,xs,rfl,rfl,hH,q⟩:=h;cases rx;have xb:=rv.zero;subst xb;obtain⟨z,aL,n,r,hl,e⟩:=I.pz hH;refine cK F.slot_list_clear ⟨_,e,rfl⟩ F.entry_list_clear (F.args_list_clear_1 _) (AutoSeq1.list_clear_list_0 l aL.toArray n (by rw[av];omega)) ⟨e,?_⟩;exact⟨.bc,_,I.U0 (its':=[]) (ys:=[]) hH e rfl .nil (bX _),rfl,q⟩
def Pq:R2:=λx y H Q=>∃l b xs zs,x=.ref l/\y=.ref b/\H l=some (.lst xs)/\H b=some (.lst zs)/\xs.length+zs.length<=sizeLine/\∀p,H p=none->Q (.ref p) (upd H p (.lst (xs++zs)))
theorem Ku:eY X (binaryOp .Add) Pq:=by
 intro pins s Z H x y v u Q I rx ry h;obtain⟨l,b,xs,zs,rfl,rfl,hH,hB,hz,q⟩:=h;cases rx;cases ry;obtain⟨z,aL,n,r,hl,e⟩:=I.pz hH;obtain⟨z2,lG,n2,r2,pU,e2⟩:=I.pz hB;refine PySem.P.add_list e e2 ?_ (by rw[av,av];omega);have ea:aL.toArray++lG.toArray=(aL++lG).toArray:=by simp
 rw[ea];exact⟨.ref _,_,I.Ci (t':=s.toks) (r.append r2) (by rw[bt];omega),rfl,q _ I.fresh⟩
def Py:R2:=λx y H Q=>∃l k xs,x=.ref l/\y=.int k/\H l=some (.lst xs)/\-(2 ^ 63)<=k/\k<2 ^ 63/\xs.length*k.toNat<=sizeLine /\
 ∀p,H p=none->Q (.ref p) (upd H p (.lst (List.replicate k.toNat xs).flatten))
theorem len_rep(xs:List α)(k:Nat):(List.replicate k xs).flatten.length=k*xs.length:=by
 induction k with
 |zero=>simp
 |succ k ih=>rw[bO,cN,bt,ih,Nat.succ_mul,Nat.add_comm]
theorem Kz:eY X (binaryOp .Mult) Py:=by
 intro pins s Z H x y v u Q I rx ry h;obtain⟨l,k,xs,rfl,rfl,hH,h1,h2,hz,q⟩:=h;cases rx;obtain⟨t,rfl⟩:=ry;obtain⟨z,aL,n,r,hl,e⟩:=I.pz hH;have hlen:aL.toArray.size*k.toNat<=sizeLine:=by rw[av,<- hl];exact hz
 have xC:¬aL.toArray.size*k.toNat>(2 ^ 63-1) / 8:=by
  have:(sizeLine:Nat)<=(2 ^ 63-1) / 8:=by decide
  omega
 have xy:¬(!Builtin.List.listFitsIndex k)=true:=by
  rw[fitsIndex_both h1 h2];exact bu
 have rJ:¬Builtin.List.listTooLong (aL.toArray.size*k.toNat)=true:=by
  rw[Xk hlen];exact bu
 have oK:List.foldl (λx1 x2=>x1++x2) #[] (List.replicate (if aL.toArray.isEmpty=true then 0 else k.toNat) aL.toArray)=(List.replicate k.toNat aL).flatten.toArray:=by
  have f0:∀m:Nat,List.foldl (λx1 x2=>x1++x2) #[] (List.replicate m aL.toArray)=(List.replicate m aL).flatten.toArray:=λm=>by
   have:=foldl_rep aL m [];rw[List.nil_append] at this;exact this
  rw[f0];cases aL with
  |nil=>simp
  |cons a r'=>rw[if_neg (by simp)]
 refine Az (T:="list") (U:="int") (by decide) ⟨_,e,rfl⟩ (λs'=>kY s' k t) noFill_list_mul F.fills_int_mul jd repeat_list F.slot_int_index.lookup
  (cK jd (kY s k t) F.entry_int_rmul (F.args_int_rmul_2 _ _) (int___rmul___int_list k t l aL.toArray n)
   ⟨e,rfl,⟨_,e,rfl⟩,cK F.slot_list_mul ⟨_,e,rfl⟩ F.entry_list_mul (F.args_list_mul_2 _ _) (AutoListH.list___mul___list_int_3 l aL.toArray n k t xy xC rJ) ⟨e,?_⟩⟩)
 rw[oK];exact⟨.ref _,_,I.Ci (t':=s.toks) (r.rep k.toNat) (by rw[len_rep,qx];exact hz),rfl,q _ I.fresh⟩
section
variable{κ:Type}[DecidableEq κ]
def J5(kvs:List (κ×V))(k:κ):Option V:=(kvs.find? λkv=>decide (kv.1=k)).map (·.2)
def putK(kvs:List (κ×V))(k:κ)(v:V):List (κ×V) :=
 if(kvs.any λkv=>decide (kv.1=k))=true then kvs.map (λkv=>if kv.1=k then(kv.1,v) else kv) else kvs++[(k,v)]
def Y9(kvs:List (κ×V))(k:κ):List (κ×V):=kvs.filter λkv=>decide (kv.1≠k)
theorem zk{p:κ×V}{r:List (κ×V)}{k:κ}(e:p.1=k):J5 (p::r) k=some p.2:=by simp[J5,List.find?_cons,e]
theorem zj{p:κ×V}{r:List (κ×V)}{k:κ}(e:¬p.1=k):J5 (p::r) k=J5 r k:=by simp[J5,List.find?_cons,e]
theorem DG(k:κ):∀kvs:List (κ×V),(kvs.any λkv=>decide (kv.1=k))=(J5 kvs k).isSome
 |[]=>rfl
 |p::r=>by
  rw[eZ];by_cases e:p.1=k
  ·simp only[zk e,decide_eq_true e,Bool.true_or,Option.isSome_some]
  ·rw[zj e,aR e,Bool.false_or];exact DG k r
theorem M5(kvs:List (κ×V))(k:κ)(v:V):(putK kvs k v).length<=kvs.length+1:=by
 unfold putK;split
 ·rw[ay];omega
 ·rw[bt,cV,List.length_nil];omega
theorem v7.M9{u:Option Value}(r:v7 o u):o.isSome=u.isSome:=by
 cases o with
 |none=>cases u with
  |none=>rfl
  |some _=>exact(show False from r).elim
 |some _=>cases u with
  |none=>exact(show False from r).elim
  |some _=>rfl
theorem v7.getD{o:Option V}{u:Option Value}{d:V}{d':Value}(r:v7 o u)(rd:RelV d d'):RelV (o.getD d) (u.getD d'):=by
 cases o with
 |none=>cases u with
  |none=>exact rd
  |some _=>exact(show False from r).elim
 |some _=>cases u with
  |none=>exact(show False from r).elim
  |some _=>exact r
theorem KV.val{kvs:List (κ×V)}{vs:List (κ×Value)}(r:KV kvs vs)(k:κ):v7 (J5 kvs k) (valueAt vs k):=by
 unfold KV at r
 induction r with
 |nil=>exact True.intro
 |@cons p q ps qs h t ih =>
  obtain⟨h1,h2⟩:=h;by_cases e:p.1=k
  ·have e':q.1=k:=h1.symm.trans e;have b:valueAt (q::qs) k=some q.2:=by simp[valueAt,List.find?_cons,e']
   rw[zk e,b];exact h2
  ·have e':¬q.1=k:=λz=>e (h1.trans z);have b:valueAt (q::qs) k=valueAt qs k:=by simp[valueAt,List.find?_cons,e']
   rw[zj e,b];exact ih
theorem KV.any{kvs:List (κ×V)}{vs:List (κ×Value)}(r:KV kvs vs)(k:κ):(kvs.any λkv=>decide (kv.1=k))=vs.any λkv=>decide (kv.1=k):=by
 unfold KV at r
 induction r with
 |nil=>rfl
 |cons h t ih=>rw[eZ,eZ,ih,h.1]
theorem KV.Ap{kvs:List (κ×V)}{vs:List (κ×Value)}(r:KV kvs vs)(k:κ)(ry:RelV y u) :
  KV (kvs.map λkv=>if kv.1=k then(kv.1,y) else kv) (vs.map λkv=>if kv.1=k then(kv.1,u) else kv):=by
 unfold KV at r ⊢
 induction r with
 |nil=>exact .nil
 |@cons p q ps qs h t ih =>
  rw[ba,ba];refine .cons ?_ ih;obtain⟨h1,h2⟩:=h;by_cases e:p.1=k
  ·rw[aK e,aK (h1.symm.trans e)];exact⟨h1,ry⟩
  ·rw[aD e,aD (λz=>e (h1.trans z))];exact⟨h1,h2⟩
theorem KV.put{kvs:List (κ×V)}{vs:List (κ×Value)}(r:KV kvs vs)(k:κ)(ry:RelV y u):KV (putK kvs k y) (stored vs k u):=by
 unfold putK stored;rw[r.any k];by_cases e:(vs.any λkv=>decide (kv.1=k))=true
 ·rw[aK e,aK e];exact r.Ap k ry
 ·rw[aD e,aD e];exact Paired.snoc r ⟨rfl,ry⟩
theorem KV.drop{kvs:List (κ×V)}{vs:List (κ×Value)}(r:KV kvs vs)(k:κ):KV (Y9 kvs k) (without vs k):=by
 unfold KV at r ⊢;unfold Y9 without
 induction r with
 |nil=>exact .nil
 |@cons p q ps qs h t ih =>
  obtain⟨h1,h2⟩:=h;rw[cX,cX];by_cases e:p.1=k
  ·have a:¬decide (p.1≠k)=true:=by simp[e]
   have b:¬decide (q.1≠k)=true:=by simp[h1.symm.trans e]
   rw[aD a,aD b];exact ih
  ·have e':¬q.1=k:=λz=>e (h1.trans z);have a:decide (p.1≠k)=true:=by simp[e]
   have b:decide (q.1≠k)=true:=by simp[e']
   rw[aK a,aK b];exact .cons ⟨h1,h2⟩ ih
theorem KV.keys{kvs:List (κ×V)}{vs:List (κ×Value)}(r:KV kvs vs):kvs.map (·.1)=vs.map (·.1):=by
 unfold KV at r
 induction r with
 |nil=>rfl
 |cons h t ih=>rw[ba,ba,ih,h.1]
theorem KV.length{kvs:List (κ×V)}{vs:List (κ×Value)}(r:KV kvs vs):kvs.length=vs.length:=kK r
theorem WN(kvs:List (κ×V))(k:κ):(Y9 kvs k).length<=kvs.length:=hV _ _
end
theorem T3{k:Key}(r:RelV (kV k) u):(d7 P w).is k u=true:=by
 cases k with
 |inl i=>obtain⟨t,e⟩:=(show ∃t,u=Value.int i t from r);subst e;exact Wc P w i t
 |inr x=>obtain⟨t,e⟩:=(show ∃t,u=Value.str x t from r);subst e;exact We P w x t
theorem DV{P:Program}{w:World}:∀{ks:List Key} {us:List Value},Vals (ks.map kV) us->ItemsAre (d7 P w) ks us
 |[],_,r=>by rw[qD] at r;cases r;exact .nil
 |k::ks,_,r=>by
  rw[ba] at r;cases r with
  |cons h t=>exact .cons (T3 h) (DV t)
noncomputable abbrev KT(H:Hp):List (List Key×V)->List (List Key×Addr×Value)->Prop:=Paired λp q=>p.1=q.1/\H q.2.1=some (.tup (p.1.map kV))/\RelV p.2 q.2.2
theorem KT.val{xs:List (List Key×Addr×Value)}(r:KT H kvs xs)(k:List Key):v7 (J5 kvs k) ((atKey xs k).map (·.2)):=by
 induction r with
 |nil=>exact True.intro
 |@cons p q ps qs h t ih =>
  obtain⟨h1,_,h2⟩:=h;by_cases e:p.1=k
  ·have e':q.1=k:=h1.symm.trans e;have b:atKey (q::qs) k=some q.2:=by simp[atKey,List.find?_cons,e']
   rw[zk e,b];exact h2
  ·have e':¬q.1=k:=λz=>e (h1.trans z);have b:atKey (q::qs) k=atKey qs k:=by simp[atKey,List.find?_cons,e']
   rw[zj e,b];exact ih
theorem KT.Ap{xs:List (List Key×Addr×Value)}(r:KT H kvs xs)(k:List Key)(ry:RelV y u) :
  KT H (kvs.map λkv=>if kv.1=k then(kv.1,y) else kv) (xs.map (putAt k u)):=by
 induction r with
 |nil=>exact .nil
 |@cons p q ps qs h t ih =>
  rw[ba,ba];refine .cons ?_ ih;obtain⟨h1,h2,h3⟩:=h;unfold putAt;by_cases e:p.1=k
  ·rw[aK e,aK (h1.symm.trans e)];exact⟨h1,h2,ry⟩
  ·rw[aD e,aD (λz=>e (h1.trans z))];exact⟨h1,h2,h3⟩
theorem KT.put{xs:List (List Key×Addr×Value)}(r:KT H kvs xs)(k:List Key){b:Addr}(hb:H b=some (.tup (k.map kV)))(ry:RelV y u) :
  KT H (putK kvs k y) (storedH xs k b u):=by
 have e:(kvs.any λkv=>decide (kv.1=k))=(atKey xs k).isSome:=by
  rw[DG,(r.val k).M9,fW]
 unfold putK storedH;rw[e];by_cases q:(atKey xs k).isSome=true
 ·rw[aK q,aK q];exact r.Ap k ry
 ·rw[aD q,aD q];exact Paired.snoc r ⟨rfl,hb,ry⟩
theorem KT.keeps{xs:List (List Key×Addr×Value)}(r:KT H kvs xs)(ht:∀b ys,H b=some (.tup ys)->H' b=some (.tup ys)):KT H' kvs xs :=
 Paired.Ck r λ_ _ z=>⟨z.1,ht _ _ z.2.1,z.2.2⟩
section
variable{h:Heap}
theorem Dd{u:HO}(ok:fA P w H h)(e:Rd H a u):j4 P w H h a u:=e.ok ok
theorem qp{kvs:List (Key×V)}(ok:fA P w H h)(e:Rd H a (.dK kvs)):kvs.length<=sizeLine/\(a==sysModules)=false/\∃vs,KV kvs vs/\h.DictOf (d7 P w) a vs :=
 show j4 P w H h a (.dK kvs) from Dd ok e
theorem qo{kvs:List (Key×V)}(ok:fA P w H h)(e:H a=some (.dK kvs)):kvs.length<=sizeLine/\(a==sysModules)=false/\∃vs,KV kvs vs/\h.DictOf (d7 P w) a vs:=qp ok (.inl e)
theorem tJ{ks:List Key}(ok:fA P w H h)(e:H a=some (.tup (ks.map kV))):(tupleKind (d7 P w)).is h ks a:=by
 obtain⟨_,aL,r,o,h1,h2,⟨n,h3⟩,_⟩:=(show j4 P w H h a (.tup (ks.map kV)) from ok a _ e)
 exact⟨o,aL.toArray,n,h1,h2,h3,by simpa using DV r⟩
theorem sX(ok:fA P w H h)(e:Rd H a (.dT kvs)):kvs.length<=sizeLine/\(a==sysModules)=false /\
  ∃xs,KT H kvs xs/\h.DictOfH (tupleKind (d7 P w)) a xs:=by
 obtain⟨z,y,xs,r,o,es,ep,h1,h2,h3,h4,h5⟩:=(show j4 P w H h a (.dT kvs) from Dd ok e)
 refine⟨z,y,xs,r,o,es,ep,h1,h2,h3,h4,λx hx=>?_,h5⟩;have all:∀{l:List (List Key×V)} {m:List (List Key×Addr×Value)},KT H l m->∀x∈m,(tupleKind (d7 P w)).is h x.1 x.2.1:=by
  intro l m q
  induction q with
  |nil=>intro x hx;exact nomatch hx
  |@cons p q ps qs hq t ih =>
   intro x hx;rcases aw.mp hx with e|hx
   ·subst e;exact tJ ok (by rw[<- hq.1];exact hq.2.1)
   ·exact ih x hx
 exact all r x hx
theorem QO(ok:fA P w H h)(e:H a=some (.dT kvs)):kvs.length<=sizeLine/\(a==sysModules)=false /\
  ∃xs,KT H kvs xs/\h.DictOfH (tupleKind (d7 P w)) a xs:=sX ok (.inl e)
end
def U4(H:Hp)(a:Addr)(y:V)(r:Option V):Prop :=
 (∃kvs k,Rd H a (.dK kvs)/\y=kV k/\r=J5 kvs k)\/∃kvs k b,Rd H a (.dT kvs)/\y=.ref b/\H b=some (.tup (k.map kV))/\r=J5 kvs k
def vK(H:Hp)(a:Addr)(y v:V)(H':Hp):Prop :=
 (∃kvs k,H a=some (.dK kvs)/\y=kV k/\kvs.length<sizeLine/\H'=upd H a (.dK (putK kvs k v))) \/
 ∃kvs k b,H a=some (.dT kvs)/\y=.ref b/\H b=some (.tup (k.map kV))/\kvs.length<sizeLine/\H'=upd H a (.dT (putK kvs k v))
theorem U4.k{H:Hp}{a:Addr}{kvs:List (Key×V)}{k:Key}(e:H a=some (.dK kvs)):U4 H a (kV k) (J5 kvs k):=.inl ⟨kvs,k,.inl e,rfl,rfl⟩
theorem vK.k{H:Hp}{a:Addr}{kvs:List (Key×V)}{k:Key}{v:V}(e:H a=some (.dK kvs))(hl:kvs.length<sizeLine):vK H a (kV k) v (upd H a (.dK (putK kvs k v))):=.inl ⟨kvs,k,e,rfl,hl,rfl⟩
section
variable{v:V}{r:Value}
theorem Inv.big(I:Inv X pins Z H s):sysModules<s.heap.objs.size:=by
 have h:mainGlobals<s.heap.objs.size:=(I.mod.glob.keeps I.bk).lt;exact bW (by decide) h
theorem TJ{Q:Value->Shared->Prop}(hu:A.units+1<cLine)(I:Inv X pins Z H s)(g:U4 H a y (some v))(ry:RelV y u)(h:∀w' s',Inv X pins Z H s'->RelV v w'->Q w' s') :
  wpAny (model X.prog X.w) A (getItem (.ref a) u) Q E s:=by
 rcases g with⟨kvs,k,e,ey,l⟩|⟨kvs,k,b,e,ey,eb,l⟩
 ·subst ey;obtain⟨z,hd,vs,rel,dd⟩:=qp I.br e;obtain⟨w',hw,eE⟩:=v7.some_of (v:=v) (o:=valueAt vs k) (by rw[l];exact rel.val k);exact wpAny_getItem_of (T3 ry) dd.mapOf hw (h w' _ (I.tok _) eE)
 ·subst ey;cases (show u=Value.ref b from ry);obtain⟨z,hd,xs,rel,dd⟩:=sX I.br e;obtain⟨w',hw,eE⟩:=v7.some_of (v:=v) (o:=(atKey xs k).map (·.2)) (by rw[l];exact rel.val k);obtain⟨p,hp,nF⟩:=ae.mp hw;refine wpAny_getItem_heap (gx hu) (tJ I.br eb) dd hp ?_;rw[nF];exact h w' _ (I.tok _) eE
theorem OK{Q:Value->Shared->Prop}(hu:A.units+1<cLine)(I:Inv X pins Z H s)(g:U4 H a y o)(ry:RelV y u)(h:∀s',Inv X pins Z H s'->Q (.bool o.isSome) s') :
  wpAny (model X.prog X.w) A (compareOp .In u (.ref a)) Q E s:=by
 rcases g with⟨kvs,k,e,ey,l⟩|⟨kvs,k,b,e,ey,eb,l⟩
 ·subst ey;obtain⟨z,hd,vs,rel,dd⟩:=qp I.br e;refine wpAny_in_of (T3 ry) hd dd.mapOf ?_;rw[<- (rel.val k).M9,<- l];exact h _ (I.tok _)
 ·subst ey;cases (show u=Value.ref b from ry);obtain⟨z,hd,xs,rel,dd⟩:=sX I.br e;refine wpAny_in_heap (gx hu) (tJ I.br eb) hd dd ?_;have q:=(rel.val k).M9;rw[fW] at q;rw[<- q,<- l];exact h _ (I.tok _)
theorem Mz{Q:Value->Shared->Prop}(hu:A.units+1<cLine)(I:Inv X pins Z H s)(g:U4 H a y o)(ry:RelV y u)(h:∀s',Inv X pins Z H s'->Q (.bool (!o.isSome)) s') :
  wpAny (model X.prog X.w) A (compareOp .NotIn u (.ref a)) Q E s:=by
 rcases g with⟨kvs,k,e,ey,l⟩|⟨kvs,k,b,e,ey,eb,l⟩
 ·subst ey;obtain⟨z,hd,vs,rel,dd⟩:=qp I.br e;refine wpAny_notIn_of (T3 ry) hd dd.mapOf ?_;rw[<- (rel.val k).M9,<- l];exact h _ (I.tok _)
 ·subst ey;cases (show u=Value.ref b from ry);obtain⟨z,hd,xs,rel,dd⟩:=sX I.br e;refine wpAny_notIn_heap (gx hu) (tJ I.br eb) hd dd ?_;have q:=(rel.val k).M9;rw[fW] at q;rw[<- q,<- l];exact h _ (I.tok _)
theorem L9{h':Heap}{t':Nat}{ob:HO}(I:Inv X pins Z H s)(mu:tY (H a))(hs:Heap.SameBut a s.heap h')(he:∃q,h'.get? a=some q)(new:j4 X.prog X.w (upd H a ob) h' a ob) :
  Inv X pins Z (upd H a ob) { s with heap:=h',toks:=t' } :=
 I.write (x:=a) (e:=a) mu (.inl rfl) (λb q hb z=>(hs.2 b hb).trans z) he new
theorem tI{h':Heap}{kvs:List (Key×V)}{vs:List (Key×Value)}(z:kvs.length<=sizeLine)(hd:(a==sysModules)=false)(rel:KV kvs vs)(dd:h'.DictOf (d7 P w) a vs) :
  j4 P w H' h' a (.dK kvs):=⟨z,hd,vs,rel,dd⟩
theorem TK{Q:Unit->Shared->Prop}(hu:A.units+1<cLine)(I:Inv X pins Z H s)(g:vK H a y v H')(ry:RelV y u)(rv:RelV v r)(h:∀s',Inv X pins Z H' s'->Q () s') :
  wpAny (model X.prog X.w) A (setItem (.ref a) u r) Q E s:=by
 rcases g with⟨kvs,k,e,ey,l,eH⟩|⟨kvs,k,b,e,ey,eb,l,eH⟩
 ·subst ey eH;obtain⟨z,hd,vs,rel,dd⟩:=qo I.br e;have hz:vs.length<=sizeLine:=by rw[<- rel.length];exact z
  have hl:(putK kvs k v).length<=sizeLine:=by have:=M5 kvs k v;omega
  refine wpAny_setItem_pairs (hsz:=hz) (T3 ry) dd λh' my hs=>h _ ?_;have he:∃q,h'.get? a=some q:=let ⟨q,_,_,hq,_⟩:=my;⟨q,hq⟩
  exact L9 I (by rw[e];exact True.intro) hs he (tI hl hd (rel.put k rv) my)
 ·subst ey eH;cases (show u=Value.ref b from ry);obtain⟨z,hd,xs,rel,dd⟩:=QO I.br e;have hz:xs.length<=sizeLine:=by rw[<- kK rel];exact z
  have hl:(putK kvs k v).length<=sizeLine:=by have:=M5 kvs k v;omega
  refine wpAny_setItem_heap (hsz:=hz) (gx hu) (tJ I.br eb) dd λh' my hs=>h _ ?_;obtain⟨q,es,ep,hq,h2,h3,h4,_,h5⟩:=my;refine L9 I (by rw[e];exact True.intro) hs ⟨q,hq⟩ ⟨hl,hd,_,(rel.put k eb rv).keeps λc ys ec=>?_,q,es,ep,hq,h2,h3,h4,h5⟩;rw[a7 (Ru ec e (λz=>nomatch z))];exact ec
end
section
variable{kvs:List (Key×V)}{k:Key}
theorem QK{v:V}{more:List Value}{Q:Value->Shared->Prop}(I:Inv X pins Z H s)(e:H a=some (.dK kvs))(ry:RelV (kV k) u)(l:J5 kvs k=some v)(hm:more=[]\/∃x,more=[x])(h:∀w' s',Inv X pins Z (upd H a (.dK (Y9 kvs k))) s'->RelV v w'->Q w' s'):wpAny (model X.prog X.w) A (call (.builtin "dict.pop") (.ref a::u::more)) Q E s:=by
 obtain⟨z,hd,vs,rel,dd⟩:=qo I.br e;obtain⟨w',hw,eE⟩:=v7.some_of (v:=v) (o:=valueAt vs k) (by rw[<- l];exact rel.val k);have hp:(keyPart u).isSome=true:=by
  cases k with
  |inl i=>obtain⟨t,q⟩:=(show ∃t,u=Value.int i t from ry);subst q;rfl
  |inr x=>obtain⟨t,q⟩:=(show ∃t,u=Value.str x t from ry);subst q;rfl
 have ha:argsOk "dict.pop" ⟨.ref a::u::more,[]⟩:=by
  rcases hm with q|⟨x,q⟩
  ·subst q;exact PySem.F.args_dict_pop_2 _ _
  ·subst q;exact PySem.F.args_dict_pop_3 _ _ _
 refine call_meetsIn uh dd.typeIs PySem.F.entry_dict_pop ha (meets_dict_pop_there (d7 X.prog X.w) a (T3 ry) more hm hp)
  ⟨vs,w',dd,by rw[<- rel.length];exact z,hw,λh' my hs=>h w' _ ?_ eE⟩
 have he:∃q,h'.get? a=some q:=let ⟨q,_,_,hq,_⟩:=my;⟨q,hq⟩
 exact L9 I (by rw[e];exact True.intro) hs he (tI (aI (WN kvs k) z) hd (rel.drop k) my)
theorem QJ{Q:Value->Shared->Prop}(I:Inv X pins Z H s)(e:Rd H a (.dK kvs))(h:∀t s',Inv X pins Z H s'->Q (.int kvs.length t) s'):wpAny (model X.prog X.w) A (call (.builtin "len") [.ref a]) Q E s:=by
 obtain⟨z,hd,vs,rel,dd⟩:=qp I.br e;refine call_len_dict hd dd (by rw[<- rel.length];rw[jF] at z;omega) ?_;rw[<- rel.length];exact h _ _ (I.tok _)
end
theorem VO(I:Inv X pins Z H s)(g:U4 H a y o):s.TypeIs (.ref a) "dict":=by
 rcases g with⟨kvs,k,e,_,_⟩|⟨kvs,k,b,e,_,_,_⟩
 ·obtain⟨_,_,vs,_,dd⟩:=qp I.br e;exact dd.typeIs
 ·obtain⟨_,_,xs,_,dd⟩:=sX I.br e;exact dd.typeIs
theorem GB(h:Heap)(hb:sysModules<h.objs.size):j4 P w H (h.push { cls:=.type "dict",data:=.dict #[] }) h.objs.size (.dK []) :=
 ⟨bX _,cT.mpr (bg (aE hb)),[],.nil,Heap.DictOf.new h⟩
def LZ:TE:=λ_ H Q=>∀p,H p=none->Q (.ref p) (upd H p (.dK []))
theorem Xs:PE X (.Dict [] [] pos) LZ:=λpins s Z H Q I h =>
 wpAny_Dict_empty ⟨.ref s.heap.objs.size,_,I.laid (a:=s.heap.objs.size) (o:=.dK []) (t':=s.toks) (λ_ _ q=>ah _ q) (aj _) (GB s.heap I.big),rfl,h _ (I.br.fresh (aj _))⟩
def vj:List (TE×TE)->St->Hp->(List (V×V)->Hp->Prop)->Prop
 |[],_,H,Q=>Q [] H
 |(tk,tv)::r,Z,H,Q=>tk Z H λx H1=>tv Z H1 λy H2=>vj r Z H2 λps H3=>Q ((x,y)::ps) H3
noncomputable abbrev VV:List (V×V)->List (Value×Value)->Prop:=Paired λp q=>RelV p.1 q.1/\RelV p.2 q.2
def tW(X:Cx)(pos:Pos)(keys:List (Option Expr))(values:List Expr)(gF:List (TE×TE)):Prop :=
 ∀(pins:List (Addr×Obj)) (s:Shared) (Z:St) (H:Hp) (Q:List (V×V)->Hp->Prop),Inv X pins Z H s->vj gF Z H Q ->
  wpAny (model X.prog X.w) X.A (evalPairs (pairTrees keys values X.env pos)) (λvs s'=>∃ps H',Inv X pins Z H' s'/\VV ps vs/\Q ps H') X.xe s
theorem Nx:tW X pos [] [] []:=λpins s Z H Q I h=>pairTrees_nil_walk ⟨[],H,I,.nil,h⟩
theorem XC{k v:Expr}{ks:List (Option Expr)}{vs:List Expr}{tk tv:TE}{gF:List (TE×TE)}(hk:PE X k tk)(hv:PE X v tv)(hr:tW X pos ks vs gF) :
  tW X pos (some k::ks) (v::vs) ((tk,tv)::gF):=λpins s Z H Q I h =>
 pairTrees_cons_walk (bS (hk pins s Z H _ I h) λu s1 ⟨x,H1,I1,rx,q1⟩=>bS (hv pins s1 Z H1 _ I1 q1) λw2 s2 ⟨y,H2,I2,ry,q2⟩ =>
  bS (hr pins s2 Z H2 _ I2 q2) λws s3 ⟨ps,H3,I3,rel,q3⟩=>⟨(x,y) :: ps,H3,I3,.cons ⟨rx,ry⟩ rel,q3⟩)
def P9(kvs more:List (Key×V)):List (Key×V):=more.foldl (λacc kv=>putK acc kv.1 kv.2) kvs
theorem KV.merge:∀{more:List (Key×V)} {rs:List (Key×Value)} {kvs:List (Key×V)} {vs:List (Key×Value)},KV more rs->KV kvs vs->KV (P9 kvs more) (merged vs rs):=by
 intro more rs kvs vs r;unfold KV at r
 induction r generalizing kvs vs with
 |nil=>intro q;exact q
 |@cons p q ps qs h t ih =>
  intro r0;have e:KV (putK kvs p.1 p.2) (stored vs q.1 q.2):=by
   have:=r0.put p.1 h.2;rw[<- h.1];exact this
  exact ih e
theorem Z8:∀(more kvs:List (Key×V)),(P9 kvs more).length<=kvs.length+more.length
 |[],kvs=>by show kvs.length<=kvs.length+0;omega
 |p::r,kvs=>by
  have h1:=Z8 r (putK kvs p.1 p.2);have h2:=M5 kvs p.1 p.2;show(P9 (putK kvs p.1 p.2) r).length<=_;rw[cV];omega
theorem En{P:Program}{w:World}:∀{kvs:List (Key×V)} {ws:List (Value×Value)},VV (kvs.map λkv=>(kV kv.1,kv.2)) ws->∃rs,Carries (d7 P w) ws rs/\KV kvs rs
 |[],_,r=>by rw[qD] at r;cases r;exact⟨[],True.intro,.nil⟩
 |p::kvs,_,r=>by
  rw[ba] at r;cases r with
  |@cons a b as bs h t =>
   obtain⟨rs,c,q⟩:=En (P:=P) (w:=w) t;obtain⟨b1,b2⟩:=b;exact⟨(p.1,b2)::rs,⟨T3 h.1,rfl,c⟩,.cons ⟨rfl,h.2⟩ q⟩
def Sg(gF:List (TE×TE)):TE:=λZ H Q=>∀p,H p=none->vj gF Z (upd H p (.dK [])) λps H2=>H2 p=some (.dK [])/\∃kvs:List (Key×V),ps=kvs.map (λkv=>(kV kv.1,kv.2))/\kvs.length<=15/\Q (.ref p) (upd H2 p (.dK (P9 [] kvs)))
theorem Nn{keys:List (Option Expr)}{values:List Expr}{gF:List (TE×TE)}(h:tW X pos keys values gF)(oR:keys.all (·.isSome)=true)(hl:keys.length=values.length)(h0:keys≠[])(ye:keys.length<=15):PE X (.Dict keys values pos) (Sg gF):=by
 intro pins s Z H Q I q;have hn:=I.br.fresh (aj s.heap.objs.size);have I1:=I.laid (a:=s.heap.objs.size) (o:=.dK []) (h':=s.heap.push { cls:=.type "dict",data:=.dict #[] }) (t':=s.toks) (λ_ _ q=>ah _ q) (aj _) (GB s.heap I.big);refine wpAny_Dict_walk (knd:=d7 X.prog X.w) oR hl h0 ye (bS (h pins _ Z _ _ I1 (q _ hn)) λws s2 aS=>?_);obtain⟨ps,H2,I2,rel,e,kvs,ep,lk,q2⟩:=aS;subst ep;obtain⟨rs,c,rk⟩:=En (P:=X.prog) (w:=X.w) rel;obtain⟨z,hd,YE,r0,dd⟩:=qo I2.br e;cases r0;refine⟨rs,c,dd,λh' my hs=>⟨.ref s.heap.objs.size,_,?_,rfl,q2⟩⟩;have hz:(P9 [] kvs).length<=sizeLine:=by
  have h1:=Z8 kvs [];rw[List.length_nil] at h1;rw[jF];omega
 have he:∃q,h'.get? s.heap.objs.size=some q:=let ⟨q,_,_,hq,_⟩:=my;⟨q,hq⟩
 exact L9 I2 (by rw[e];exact True.intro) hs he (tI hz hd (rk.merge .nil) my)
end L2
namespace GS
open PySem PySem.W PySem.Calls PyProof.Rows
theorem Tj{P:Params}{h:Heap}:∀(ns:List Int) (vs:List Value),WellAll P h vs (ns.map WData.int)->IntsAre vs ns:=by
 intro ns
 induction ns with
 |nil =>
  intro vs w;rw[qD] at w;cases w;exact .nil
 |cons n ns ih =>
  intro vs w;rw[ba] at w;cases w with
  |cons a b =>
   cases a;exact .cons _ _ (ih _ b)
theorem UH{l:OpenLaw}{n:Nat}(hn:l.most=some n){P:Params}{h:Heap}{args:List WData}{vals:List Value}(mV:l.row.toRowW.claim.pre args=true)(wZ:WellAll P h vals args) :
  ∃a vs ns,vals=[Value.ref a]/\args=[WData.list (ns.map WData.int)]/\h.get? a=some { cls:=.type "list",data:=.seq vs.toArray }/\IntsAre vs ns/\ns.length<=n:=by
 have Ib:WShape.hasAll [] args [.list .int]=true:=(pre_splitW mV).1;have hc:l.pre.holds [] { args:=args }=true:=(pre_splitW mV).2;obtain⟨d,r,rfl,h1,h2⟩:=hasAllW_cons Ib;obtain rfl:=hasAllW_nil h2;obtain⟨xs,rfl,h3⟩:=hasW_list h1;obtain⟨ns,rfl⟩:=items_int h3;have hlen:ns.length<=n:=by
  unfold OpenLaw.pre at hc;have h4:(WTm.not (.lt (.lit (.int (n:Int))) (.len (.arg 0)))).holds [] { args:=[.list (ns.map .int)] }=true:=by
   have h4:=(holds_andW hc).1;rw[hn] at h4;exact h4
  have h5:=condW_of h4 (w_not (w_lt w_lit (w_len_list (w_arg rfl))));rw[ay] at h5;refine kh λq=>?_;have q':(n:Int)<((ns.length:Nat):Int):=by omega
  first
   |(rw[aT q'] at h5;exact absurd h5 (by decide))
   |(simp at h5;omega)
 cases wZ with
 |cons w1 w2 =>
  cases w2;cases w1 with
  |list ho oR=>exact⟨_,_,ns,rfl,rfl,ho,Tj ns _ oR,hlen⟩
theorem UC(l:OpenLaw)(args:List WData):l.row.toRowW.claim.post args (.bool true) args=true :=
 postW_of (r:=l.row.toRowW) (X:=(true==true))
  (show WShape.has [] (.bool true) .bool=true by first|rfl|decide|simp[WShape.has,WShape.arms,WShape.armsAll])
  (show(WTm.eq .res (.lit (.bool true))).value [] { args:=args,res:=some (.bool true),after:=args }=some (.bool (true==true)) from w_eq_bool (w_res rfl) w_lit) rfl
theorem VJ{l:OpenLaw}{n:Nat}{q:Program}{loose:List Str}{XP:(Str->Option Value)->Heap->Prop}{YP:World->Heap->Prop}{d:DefRec}(hn:l.most=some n)(rT:d.params.defaults=[])(call:∀ (w:World) (cR bx:Shared) (mg mb:Str->Option Value) (fa:Addr) (o:Obj) (pm cd doc:Value) (a:Addr) (vs:List Value) (ns:List Int),
   Ground q loose [] XP w cR mg mb bx.heap->YP w bx.heap ->
   bx.heap.get? fa=some o->o.data=.func (docDef d.name d.params d.body d.scope pm cd doc)->bx.heap.CodeRec cd d.name->mg d.name=some (.ref fa) ->
   bx.heap.get? a=some { cls:=.type "list",data:=.seq vs.toArray }->IntsAre vs ns->ns.length<=n->bx.gens=#[] ->
   codeAny (model l.prog w) callerA (.call (.ref fa) ⟨[.ref a],[]⟩) (λr s'=>r=.ok (.ret (.bool true))/\OldK bx.heap s'.heap/\s'.os=bx.os/\AllBare s'.gens) bx) :
  WalkO q loose XP YP l.row.toRowW d [] (λf vs=>PySem.call f vs):=by
 intro w cR bx mg mb G Y fa o pm cd doc dV kV ho hd kC hD hmg hg args vals as mV Iq YY wZ Y';obtain rfl:dV=.none:=Dflts.none hD rT;obtain rfl:kV=.none:=Dflts.noKw hD;obtain⟨a,vs,ns,rfl,rfl,fU,hints,hlen⟩:=UH hn mV wZ;refine enter_call (fZ (call w cR bx mg mb fa o pm cd doc a vs ns G Y ho (fd_plain hd) kC hmg fU hints hlen hg) λr s' hq=>?_);obtain⟨rfl,h2,h3,h4⟩:=hq;exact⟨.inl ⟨.bool true,.bool true,[],rfl,λ_=>rfl,.bool true,UC l _,λ_=>⟨List.Pairwise.nil,λ_ hm=>(nomatch hm)⟩⟩,h2,h3,h4⟩
end GS
namespace L2
open PySem PySem.Spec PyProof.Rows
variable{w:World}{x qual:Str}{X:Cx}{A:Around}{s:Shared}{elt iter tg:Expr}{ifs:List Expr}{scope:Scope}{pos:Pos}{cl:List (Str×Addr)}{C:Addr}{N':List Str}{a9:List Nat}{fp:List Addr}{g:TG}{tc:TT}{te:TE}
theorem Ej:∀{vs:List Value} {ns:List Int},IntsAre vs ns->Vals (ns.map V.int) vs
 |_,_,.nil=>.nil
 |_,_,.cons n t h=>.cons ⟨t,rfl⟩ (Ej h)
def vL(H:Hp):Prop:=∀b,H b=none\/∃o xs,H b=some (.iW o (.lst xs))
theorem Xa{P:Program}{K:PySem.W.Frag}{mg mb:Str->Option Value}{CX:lY}{k:Nat}{fa a:Addr}{fd:FuncData}{sp:Sp}{bx:Shared}{vs:List Value}{ns:List Int}(KX:K.In bx.heap)(Br:bx.heap.Ns mainGlobals mg)(hb:bx.heap.Ns builtinsNs mb)(xE:∀x:Str,x≠"__name__"->mb x=bootBuiltins x)(xq:bx.heap.NoLimit)(hg:bx.gens=#[])(ha:bx.heap.get? a=some { cls:=.type "list",data:=.seq vs.toArray })(hi:IntsAre vs ns)(hl:ns.length<=sizeLine)(hr:m6 k callerA)(F:∀base:Heap,K.In base->base.Ns mainGlobals mg->fV P w K mg base CX k fa fd [x] sp)(rY:∀(s:Shared) (u:Value),BindsTo s fd ⟨[u],[]⟩ [(x,u)])(pS:∀H:Hp,vL H->eT K H a (ns.map V.int)->sp [.ref a] H (λv _=>v=.bl true) λ_ _ _=>False)(xM:∀H e s',CX [] H bx (λ_ _ _=>False) e s'->False) :
  codeAny (model P w) callerA (.call (.ref fa) ⟨[.ref a],[]⟩) (λr s'=>r=.ok (.ret (.bool true))/\OldK bx.heap s'.heap/\s'.os=bx.os/\AllBare s'.gens) bx:=by
 have rv:=Ej hi;have wM:=hi.length;have core:∀H:Hp,vL H->eT K H a (ns.map V.int)->fA P w H bx.heap->(∀b,H b≠none->b=a)->(H a≠none->K.lookup a=none) ->
   codeAny (model P w) callerA (.call (.ref fa) ⟨[.ref a],[]⟩) (λr s'=>r=.ok (.ret (.bool true))/\OldK bx.heap s'.heap/\s'.os=bx.os/\AllBare s'.gens) bx:=by
  intro H hO hS br hA hK;have C0:∀{b:Addr} {o:Obj},bx.heap.get? b=some o->H b=none->(Y6 bx.heap H).get? b=some o:=λe n=>WV e n;have qT:∀{b:Addr} {o:Obj} {es:Array DictEntry} {ep:Nat},bx.heap.get? b=some o->o.data=.dict es ep->H b=none:=λ{b o es ep} e d=>by
   cases q:H b with
   |none=>rfl
   |some u =>
    have e':b=a:=hA b (by rw[q];simp);subst e';rw[ha] at e;cases e;have d':Data.seq vs.toArray _=Data.dict es ep:=d;cases d'
  have ux:∀{b:Addr} {m:Str->Option Value},bx.heap.Ns b m->(Y6 bx.heap H).Ns b m:=λ{b m} ⟨o,es,ep,e,d,r⟩=>⟨o,es,ep,C0 e (qT e d),d,r⟩
  have BI:K.In (Y6 bx.heap H):=λb o e=>C0 (KX b o e) (by
   cases q:H b with
   |none=>rfl
   |some u =>
    have e':b=a:=hA b (by rw[q];simp);subst e';rw [hK (by rw [q];simp)] at e;cases e)
  have hM:Mod K mg (Y6 bx.heap H):=⟨BI,ux Br,⟨mb,ux hb,xE⟩,let ⟨mc,h1,h2⟩:=xq;⟨mc,ux h1,h2⟩⟩
  have e0:pj P w K mg (Y6 bx.heap H) callerA [] bx H:=⟨rfl,hM,λb o e=>Nb e,Nat.le_of_eq (TV _ _),trivial,λb hb=>absurd (show b∈([]:List Addr) from hb) (by simp),br,.of_eq hg⟩
  refine fZ ((F _ BI (ux Br)).run callerA [] bx H ⟨[.ref a],[]⟩ [.ref a] [.ref a] _ _ hr e0 (rY bx (.ref a)) (.cons rfl .nil) (pS H hO hS)) λr s' h=>?_;cases r with
  |error e=>exact(xM H e s' h).elim
  |ok fl =>
   cases fl with
   |next=>exact False.elim h
   |brk=>exact False.elim h
   |cont=>exact False.elim h
   |ret u =>
    obtain⟨v,H',os,bare,un,xj,r',q⟩:=h;have q':v=.bl true:=q;subst q';obtain rfl:u=Value.bool true:=r';refine⟨rfl,OldK.of_keep λb o e=>?_,os,bare⟩;cases q:H b with
    |none=>exact un.keep b o e q (by intro z;exact absurd (show b∈([]:List Addr) from z) (by simp)) (by simp)
    |some u =>
     rcases hO b with z|⟨ob,xs,z⟩
     ·rw[q] at z;cases z
     ·have z2:=un.gD b ob _ z;obtain⟨e1,_⟩:=br b _ z;obtain⟨e2,_⟩:=xj b _ z2;rw[e] at e1;cases e1;exact e2
 cases hk:K.lookup a with
 |some o =>
  have e:=KX a o hk;rw[ha] at e;cases e;refine core (λ_=>none) (λ_=>.inl rfl) (.inr ⟨_,vs.toArray,_,hk,rfl,rfl,rfl,by rw[av,wM];exact hl,by simpa using rv⟩) (λb u z=>by have z':(none:Option HO)=some u:=z;cases z') (λb z=>absurd rfl z) λz=>absurd rfl z
 |none =>
  refine core (λb=>if b=a then some (.iW { cls:=.type "list",data:=.seq vs.toArray } (.lst (ns.map V.int))) else none) (λb=>?_) (.inl (.inr ⟨{ cls:=.type "list",data:=.seq vs.toArray },aK rfl⟩)) (λb u z=>?_) (λb z=>?_) λ_=>hk
  ·by_cases hb:b=a
   ·exact .inr ⟨_,_,aK hb⟩
   ·exact .inl (aD hb)
  ·by_cases hb:b=a
   ·have z':=(aK hb).symm.trans z;cases z';subst hb;exact⟨ha,by rw[ay];exact hl,vs,_,rv,ha⟩
   ·have z':=(aD hb).symm.trans z;cases z'
  ·by_cases hb:b=a
   ·exact hb
   ·exact absurd (aD hb) z
theorem Ot{l:PySem.W.OpenLaw}{n k:Nat}{q:Program}{loose:List Str}{XP:(Str->Option Value)->Heap->Prop}{YP:World->Heap->Prop}{d:DefRec}{K:Params->PySem.W.Frag}{CX:World->lY}{sp:World->Sp}(hn:l.most=some n)(mW:n<=sizeLine)(rT:d.params.defaults=[])(hr:m6 k callerA)(hY:∀(w:World) (h:Heap),YP w h->(K w.params).In h)(F:∀ (w:World) (mg:Str->Option Value) (fa:Addr) (h:Heap),(K w.params).In h->h.Ns mainGlobals mg->mg d.name=some (.ref fa) ->
   ∃fd:FuncData,(∀(s:Shared) (u:Value),BindsTo s fd ⟨[u],[]⟩ [(x,u)]) /\
    ∀ base:Heap,(K w.params).In base->base.Ns mainGlobals mg->fV l.prog w (K w.params) mg base (CX w) k fa fd [x] (sp w))(pS:∀(w:World) (H:Hp) (a:Addr) (ns:List Int),ns.length<=n->vL H->eT (K w.params) H a (ns.map V.int)->sp w [.ref a] H (λv _=>v=.bl true) λ_ _ _=>False)(xM:∀(w:World) (H:Hp) (s:Shared) (e:Value) (s':Shared),CX w [] H s (λ_ _ _=>False) e s'->False) :
  PySem.W.WalkO q loose XP YP l.row.toRowW d [] (λf vs=>PySem.call f vs):=by
 refine GS.VJ hn rT λw cR bx mg mb fa o pm cd doc a vs ns G Y ho hd kC hmg fU hints hlen hg=>?_;have KX:=hY w _ Y;obtain⟨fd,hb,hF⟩:=F w mg fa _ KX G.T.g hmg;exact Xa KX G.T.g G.T.b G.T.builtins G.T.nolimit hg fU hints (aI hlen mW) hr hF hb (λH hO hS=>pS w H a ns hlen hO hS) λH e s'=>xM w H bx e s'
def u7(s:Stmt):Arguments:=match s with
 |.FunctionDef _ a _ _ _ _ _ _ _ _=>a
 |_=>{ posonlyargs:=[],args:=[],vararg:=none,kwonlyargs:=[],kw_defaults:=[],kwarg:=none,defaults:=[] }
def k7(s:Stmt):List Stmt:=match s with
 |.FunctionDef _ _ b _ _ _ _ _ _ _=>b
 |_=>[]
def j9(s:Stmt):Scope:=match s with
 |.FunctionDef _ _ _ _ _ _ sc _ _ _=>sc
 |_=>{ kind:=.function,names:=[],isGenerator:=false,isCoroutine:=false }
structure oi(K:PySem.W.Frag)(x qual:Str)(st:Stmt)(f:Addr)(fd:FuncData):Prop where
 ex:∃(oc:Value) (od:Option Addr) (kV doc pm:Value) (an:Option Addr) (fg ct:Value) (kR:Array (Option Value)),
  fd=PySem.W.fnOf x qual (u7 st) (k7 st) (j9 st) .none kV doc pm an fg ct/\K.lookup f=some ⟨oc,od,.func fd,kR⟩/\PySem.W.codeIn K fg qual=true
 kp:PySem.W.keepIn K (.ref f)=true
section
variable{K:PySem.W.Frag}
theorem oi.binds{st:Stmt}{f:Addr}{fd:FuncData}{ps:List Str}(F:oi K x qual st f fd)(h:∀(kV doc pm:Value) (an:Option Addr) (fg ct:Value) (us:List Value),us.length=ps.length->bindArgs (PySem.W.fnOf x qual (u7 st) (k7 st) (j9 st) .none kV doc pm an fg ct) ⟨us,[]⟩=pure (ps.zip us)):Binds K fd ps []:=by
 obtain⟨oc,od,kV,doc,pm,an,fg,ct,kR,rfl,lk,kC⟩:=F.ex;exact .all (h kV doc pm an fg ct)
theorem Fn{st:Stmt}{f:Addr}{oc:Value}{od an:Option Addr}{kR:Array (Option Value)}{kV doc pm fg ct:Value}(l:K.lookup f=some ⟨oc,od,.func (PySem.W.fnOf x qual (u7 st) (k7 st) (j9 st) .none kV doc pm an fg ct),kR⟩)(c:PySem.W.codeIn K fg qual=true)(k:PySem.W.keepIn K (.ref f)=true):oi K x qual st f (PySem.W.fnOf x qual (u7 st) (k7 st) (j9 st) .none kV doc pm an fg ct):=⟨⟨oc,od,kV,doc,pm,an,fg,ct,kR,rfl,l,c⟩,k⟩
end
theorem Tx:j5 X (.builtin "len") (λxs H Q=>∃a kvs,xs=[V.ref a]/\H a=some (.dK kvs)/\Q (.int kvs.length) H):=by
 intro pins s Z H xs us Q I r h;obtain⟨a,kvs,rfl,ha,q⟩:=h;obtain⟨u,rfl,ru⟩:=vals1 r;cases ru;exact QJ I (.inl ha) λt s' I'=>⟨.int kvs.length,H,I',⟨t,rfl⟩,q⟩
section
variable{prog:Program}{R:Result->Shared->Prop}
theorem Wr{target:Expr}{it acc:Value}{env:Env}(I:Nat->Shared->Prop)(turn:∀ n s,I n s->wpAny (model prog w) A (pyNext it) (λr bx=>match r with
   |none=>R (.ok .next) bx
   | some v=>wpAny (model prog w) A (letOwnedTupleGo target it v) (λ_ bx=>wpAny (model prog w) A (assign target env v) (λ_ eJ =>
     wpAny (model prog w) A (forIn ifs true λc r=>if r=true then do let ok <- isTrue c env (eval c env);pure (ForInStep.yield ok) else pure (ForInStep.yield r)) (λok cY =>
      if ok=true then wpAny (model prog w) A (eval elt env) (λx gg =>
       wpAny (model prog w) A (call (.builtin "list.append") [acc,x]) (λ_ jn=>∃ m,m < n/\I m jn) (λ_ _=>False) gg) (notedBy (model prog w) A env λe s'=>R (.error e) s') cY
      else ∃ m,m < n/\I m cY) (λ_ _=>False) eJ) (λ_ _=>False) bx) (λ_ _=>False) bx) (λ_ _=>False) s)(n:Nat)(h:I n s) :
  codeAny (model prog w) A (.compLoop (.ListComp elt [⟨target,iter,ifs,0⟩] scope pos) 0 it acc env) R s:=by
 refine Zu rfl I (λn s hI=>?_) n h;show wpAny _ A ((compTurn (.ListComp elt [⟨target,iter,ifs,0⟩] scope pos) 0 it acc env).onRaise (λx=>do noteFrame x env;theTreesLotGoes x)) _ _ s;refine wpAny_noted ?_;rw[compTurn_list];refine aa (cH (aa (aV (turn n s hI) (λr bx cu=>?_) λ_ _ h'=>h'.elim)));cases r with
 |none=>exact ai cu
 |some v =>
  refine aa (aV cu (λ_ bx cu=>?_) λ_ _ h'=>h'.elim);refine aa (aV cu (λ_ eJ fT=>aa (aV fT (λok cY jt=>?_) λ_ _ h'=>h'.elim)) λ_ _ h'=>h'.elim);cases ok with
  |false=>exact wpAny_pure ⟨rfl,jt⟩
  |true =>
   exact aa (aa (aV jt (λx gg lI=>aa (aV lI (λ_ jn lH=>ai (ai ⟨rfl,lH⟩)) λ_ _ h'=>h'.elim)) λ_ _ h'=>h'))
end
def jf(X:Cx)(es:List Expr)(t:TT):Prop :=
 ∀(pins:List (Addr×Obj)) (s:Shared) (Z:St) (H:Hp) (Q:Bool->Hp->Prop),Inv X pins Z H s->t Z H Q ->
  wpAny (model X.prog X.w) X.A (forIn es true λc r=>if r=true then do let ok <- isTrue c X.env (eval c X.env);pure (ForInStep.yield ok) else pure (ForInStep.yield r)) (TP X pins Z Q) X.xe s
def Qn:TT:=λ_ H Q=>Q true H
theorem NC:jf X [] Qn:=λpins s Z H Q I h=>ai ⟨H,I,h⟩
theorem Gi{c:Expr}{t:TT}(h:PT X c t):jf X [c] t:=by
 intro pins s Z H Q I q;simp only[List.forIn_cons,List.forIn_nil,if_true];exact aa (aa (aV (h pins s Z H Q I q) (λb s' hb=>ai (ai hb)) λ_ _ x=>x))
def F0(scope:Scope)(cl:List (Str×Addr))(C:Addr):List (Str×Addr):=cellsFrom (C+1) scope.names []++cl
theorem B4:∀(names:List (Str×NameKind)) (n:Nat) (acc:List (Str×Addr)),cellsFrom n names acc=cellsFrom n names []++acc
 |[],_,_=>rfl
 |(y,k)::r,n,acc=>by
  unfold cellsFrom;split
  ·rw[B4 r (n+1) ((y,n)::acc),B4 r (n+1) [(y,n)],eI]
   rfl
  ·exact B4 r n acc
theorem R0{x:Str}{c:Addr}:∀{names:List (Str×NameKind)} {n:Nat},(x,c)∈cellsFrom n names []->(x,NameKind.cell)∈names
 |[],_,h=>by simp[cellsFrom] at h
 |(y,k)::r,n,h=>by
  unfold cellsFrom at h;split at h
  ·rename_i hk;rw[B4] at h;rcases dS.mp h with z|z
   ·exact bI _ (R0 z)
   ·cases dX.mp z;rw[show k=NameKind.cell from by simpa using hk];exact fI
  ·exact bI _ (R0 h)
theorem E7{α:Type}{x:Str}:∀{a b:List (Str×α)},(a++b).lookup x=(a.lookup x).or (b.lookup x)
 |[],_=>rfl
 |(y,v)::r,b=>by
  rw[List.cons_append,cc,cc];cases x==y
  ·exact E7
  ·rfl
theorem DO(h:scope.names.lookup x=some .cell\/∃c,cl.lookup x=some c):∃c,(F0 scope cl C).lookup x=some c:=by
 unfold F0;rw[E7];cases e:(cellsFrom (C+1) scope.names []).lookup x with
 |some c=>exact⟨c,rfl⟩
 |none =>
  rcases h with h|h
  ·have q:=da scope.names (C+1) [] (.inl h);rw[e] at q;cases q
  ·exact h
theorem K9{env:Env}:∀{names:List (Str×NameKind)} {x:Str},names.lookup x=some .cell ->
  (names.map λ(n,k)=>if(k==NameKind.free&&env.scope.kind==.function&&env.kindOf n==some .cell) then(n,NameKind.cell) else(n,k)).lookup x=some .cell
 |[],_,h=>by simp at h
 |(n,k)::r,x,h=>by
  have ih:=@K9 env r x;show List.lookup x ((if(k==NameKind.free&&env.scope.kind==.function&&env.kindOf n==some .cell)=true then(n,NameKind.cell) else(n,k))::_)=_;cases hx:x==n with
  |true =>
   simp only[List.lookup_cons,hx] at h;cases h;simp[List.lookup_cons,hx]
  |false =>
   simp only[List.lookup_cons,hx] at h;by_cases hc:(k==NameKind.free&&env.scope.kind==.function&&env.kindOf n==some .cell)=true
   ·rw[aK hc];simp only[List.lookup_cons,hx];exact ih h
   ·rw[aD hc];simp only[List.lookup_cons,hx];exact ih h
theorem M0{h:Heap}(ck:CellsOk h (C+1) (cellsFrom (C+1) scope.names [])){c:Addr}(e:(F0 scope cl C).lookup x=some c):C<c\/cl.lookup x=some c:=by
 unfold F0 at e;rw[E7] at e;cases e2:(cellsFrom (C+1) scope.names []).lookup x with
 |some c' =>
  rw[e2] at e;cases e;exact .inl (ck.empty x c (aH e2)).2
 |none =>
  rw[e2] at e;exact .inr e
theorem N3{M:Model}{E:Value->Shared->Prop}{globals:Addr}{outer:Env}{Q:Env->Shared->Prop}(hQ:∀ cu:Heap,cu.Ns s.heap.objs.size (λ_=>none)->(∀ b o,s.heap.get? b=some o->cu.get? b=some o)->CellsOk cu (s.heap.objs.size + 1) (cellsFrom (s.heap.objs.size + 1) scope.names []) ->
   Q (newEnv scope s.heap.objs.size globals (F0 scope cl s.heap.objs.size) qual none .none (some outer) builtinsNs) { s with heap:=cu }) :
  wpAny M A (newFunctionEnv scope globals cl [] qual none .none (some outer)) Q E s:=by
 simp only[newFunctionEnv,Option.isSome_some,if_true];refine aa (wpAny_alloc ?_);refine aa (wpAny_layCells _ (λname kind cells=>by cases Iv:kind==NameKind.cell<;>simp[Iv]) _ _ _ _ ?_);have ok:=cellsFrom_ok scope.names (s.heap.push { cls:=.type "dict",data:=.dict #[] }) (s.heap.objs.size+1) [] ⟨λ_ _ hm=>(nomatch hm),List.Pairwise.nil⟩ (by rw[cP];exact aj _);rw[cP] at ok;rw[show({ s with heap:=s.heap.push { cls:=.type "dict",data:=.dict #[] } }:Shared).heap.objs.size=s.heap.objs.size+1 from cP ..];rw[List.forIn_nil];refine aa (ai (ai ?_));rw[B4];exact hQ _ ((Heap.Ns.new s.heap (.type "dict")).keeps (pushCells_keeps _ _)) (λb o e=>pushCells_keeps _ _ b o (ah _ e)) ok
def a5(X:Cx)(pins:List (Addr×Obj))(scope:Scope)(N':List Str)(cl:List (Str×Addr))(C:Addr)(s:Shared)(H:Hp)(fp:List Addr):Cx where
 prog:=X.prog
 w:=X.w
 K:=X.K
 mg:=X.mg
 base:=X.base
 A:=X.A
 N:=N'
 cR:=s
 iA:=H
 env:=compEnvC scope (F0 scope cl C) C X.env
 outer:=X.stack
 stack:=X.stack
 ex:=fp
 calm:=true
 fn:=λx=>decide (scope.names.lookup x=some .cell)
 pn:=X.pn++pins
 xe:=λ_ _=>False
structure cx(X:Cx)(scope:Scope)(N':List Str)(a9:List Nat)(cl:List (Str×Addr)):Prop where
 kind:scope.kind=.function
 cells:∀y∈scope.names,y.2=.cell->scope.names.lookup y.1=some .cell
 names:∀y∈scope.names,y.2=.local->scope.names.lookup y.1=some .local
 ni:closureFor scope X.env=pure cl
 cin:∀x c,cl.lookup x=some c->X.env.cells.lookup x=some c
 sN:∀x,scope.names.lookup x=some .free->∃c,cl.lookup x=some c
 nd:N'.Nodup
 JO:∀(i j:Nat),a9[i]?=some j->∃x,N'[i]?=some x/\X.N[j]?=some x/\scope.names.lookup x=some .free/\(X.env.kindOf x=some .cell\/X.env.kindOf x=some .free)
 yv:a9.length<=N'.length
theorem C4{env:Env}:∀{names:List (Str×NameKind)} {x:Str},names.lookup x=some .free ->
  (names.map λ(n,k)=>if(k==NameKind.free&&env.scope.kind==.function&&env.kindOf n==some .cell) then(n,NameKind.cell) else(n,k)).lookup x=some .cell \/
  (names.map λ(n,k)=>if(k==NameKind.free&&env.scope.kind==.function&&env.kindOf n==some .cell) then(n,NameKind.cell) else(n,k)).lookup x=some .free
 |[],_,h=>by simp at h
 |(n,k)::r,x,h=>by
  have ih:=@C4 env r x;show List.lookup x ((if(k==NameKind.free&&env.scope.kind==.function&&env.kindOf n==some .cell)=true then(n,NameKind.cell) else(n,k))::_)=_\/List.lookup x ((if(k==NameKind.free&&env.scope.kind==.function&&env.kindOf n==some .cell)=true then(n,NameKind.cell) else(n,k))::_)=_;cases hx:x==n with
  |true =>
   simp only[List.lookup_cons,hx] at h;cases h;by_cases hc:(NameKind.free==NameKind.free&&env.scope.kind==.function&&env.kindOf n==some .cell)=true
   ·rw[aK hc];simp[List.lookup_cons,hx]
   ·rw[aD hc];simp[List.lookup_cons,hx]
  |false =>
   simp only[List.lookup_cons,hx] at h;by_cases hc:(k==NameKind.free&&env.scope.kind==.function&&env.kindOf n==some .cell)=true
   ·rw[aK hc];simp only[List.lookup_cons,hx];exact ih h
   ·rw[aD hc];simp only[List.lookup_cons,hx];exact ih h
theorem L0{env:Env}:∀{names:List (Str×NameKind)} {x:Str},((names.map λ(n,k)=>if(k==NameKind.free&&env.scope.kind==.function&&env.kindOf n==some .cell) then(n,NameKind.cell) else(n,k)).lookup x=some .cell \/
  (names.map λ(n,k)=>if (k == NameKind.free && env.scope.kind == .function && env.kindOf n == some .cell) then (n,NameKind.cell) else (n,k)).lookup x=some .free)->names.lookup x=some .free \/ names.lookup x=some .cell
 |[],_,h=>by simp at h
 |(n,k)::r,x,h=>by
  have ih:=@L0 env r x;rw[ba] at h;cases hx:x==n with
  |true =>
   simp only[List.lookup_cons,hx];by_cases hc:(k==NameKind.free&&env.scope.kind==.function&&env.kindOf n==some .cell)=true
   ·left;simp only[Bool.and_eq_true,beq_iff_eq] at hc;rw[hc.1.1]
   ·simp only[if_neg hc,List.lookup_cons,hx] at h;rcases h with h|h
    ·exact .inr h
    ·exact .inl h
  |false =>
   simp only[List.lookup_cons,hx];by_cases hc:(k==NameKind.free&&env.scope.kind==.function&&env.kindOf n==some .cell)=true
   ·simp only[if_pos hc,List.lookup_cons,hx] at h;exact ih h
   ·simp only[if_neg hc,List.lookup_cons,hx] at h;exact ih h
def o7(Z:St)(a9:List Nat)(n:Nat):St:=a9.map (λj=>(Z[j]?).join)++List.replicate (n-a9.length) none
section
variable{pins:List (Addr×Obj)}{Z:St}{H:Hp}
theorem Inv.Z1{h1:Heap}{tk:Nat}(I:Inv X pins Z H s)(S:cx X scope N' a9 cl)(hc:X.calm=true)(hf:∀b∈fp,p9 X pins H b)(ho:∀b∈fp,∃o,s.heap.get? b=some o)(hC:s.heap.objs.size<=C)(hn:∃m,h1.Ns C m)(k:∀b o,s.heap.get? b=some o->h1.get? b=some o)(ck:CellsOk h1 (C+1) (cellsFrom (C+1) scope.names [])) :
  Inv (a5 X pins scope N' cl C s H fp) [] (o7 Z a9 N'.length) H { s with heap:=h1,toks:=tk }:=by
 obtain⟨m,hm⟩:=hn;have Iu:(relabel scope X.env).kind=.function:=S.kind;have Bb:∀b o,s.heap.get? b=some o->b≠C:=λb o e z=>absurd (aq e) (by rw[z];exact ji.mpr hC);have two:∀{x:Str} {c:Addr},(F0 scope cl C).lookup x=some c->(C<c/\h1.IsCell c none/\(x,c)∈cellsFrom (C+1) scope.names [])\/(cl.lookup x=some c/\(cellsFrom (C+1) scope.names []).lookup x=none):=λ{x c} h=>by
  unfold F0 at h;rw[E7] at h;cases e:(cellsFrom (C+1) scope.names []).lookup x with
  |some c' =>
   rw[e] at h;cases h;have hm:=aH e;exact .inl ⟨(ck.empty x c hm).2,(ck.empty x c hm).1,hm⟩
  |none =>
   rw[e] at h;exact .inr ⟨h,rfl⟩
 have qQ:∀{x:Str} {c:Addr},cl.lookup x=some c->c<s.heap.objs.size:=λ{x c} h=>by
  obtain⟨v,o,e,_⟩:=I.cell x c (S.cin x c h);exact aq e
 have frees:∀{x:Str},scope.names.lookup x=some .free->(F0 scope cl C).lookup x=cl.lookup x:=λ{x} h=>by
  unfold F0;rw[E7];cases e:(cellsFrom (C+1) scope.names []).lookup x with
  |some c' =>
   have:=S.cells _ (R0 (aH e)) rfl;rw[h] at this;cases this
  |none=>rfl
 refine⟨⟨I.mod,Iu,I.ok.glob,I.ok.blt,hC,?_,?_,?_,λ_=>I.ok.hd hc,I.ok.frames,.inl rfl,?_,I.bs,?_,?_,?_,I.stack,I.vJ⟩,rfl,I.bare,Un.kept k,⟨m,hm,?_⟩,?_,?_,?_,?_,I.br.kept k,?_⟩
 ·intro x y c h1 h2;rcases two h1 with⟨l1,_,q1⟩|⟨q1,_⟩<;>rcases two h2 with⟨l2,_,q2⟩|⟨q2,_⟩
  ·exact PySem.name_of_addr ck.apart q1 q2
  ·exact absurd (bW l1 (ak (qQ q2) hC)) (aX _)
  ·exact absurd (bW l2 (ak (qQ q1) hC)) (aX _)
  ·exact I.ok.inj x y c (S.cin x c q1) (S.cin y c q2)
 ·intro x hx;rcases L0 (env:=X.env) (names:=scope.names) hx with z|z
  ·obtain⟨c,hc⟩:=S.sN x z;exact⟨c,(frees z).trans hc⟩
  ·have q:=da scope.names (C+1) [] (.inl z);obtain⟨c,hc⟩:=dP.mp q;refine⟨c,?_⟩;show(F0 scope cl C).lookup x=some c;unfold F0;rw[E7,hc]
   rfl
 ·intro x c hf h;have z:scope.names.lookup x=some .cell:=aQ hf;have q:=da scope.names (C+1) [] (.inl z);rcases two h with⟨l,_⟩|⟨_,e⟩
  ·exact cL (jj hC l)
  ·rw[e] at q;cases q
 ·intro b hb;obtain⟨f0,f1,f2,f3,f4,f5⟩:=hf b hb;obtain⟨o,e⟩:=ho b hb;refine⟨Bb b o e,λx c h=>?_⟩;rcases two h with⟨l,_⟩|⟨q,_⟩
  ·intro z;subst z;exact absurd (bW l (ak (aq e) hC)) (aX _)
  ·exact f4 x c (S.cin x c q)
 ·exact aI I.ok.lV I.sz
 ·intro b o e hb;obtain⟨f0,f1,f2,f3,f4,f5⟩:=hf b hb;rcases f3 with f3|f3
  ·exact I.ok.jq b o e f3
  ·exact absurd (aq (I.ok.bs b o e).1) (ji.mpr f3)
 ·intro b hb z;obtain⟨f0,f1,f2,f3,f4,f5⟩:=hf b hb;rcases aw.mp (I.E1 b z) with z|z
  ·exact f1 z
  ·exact f2 z
 ·intro i x v yg h2 h3;have hi:i<a9.length:=by
   unfold o7 at h2;by_cases hi:i<a9.length
   ·exact hi
   ·rw[cD (by simpa using hi),cW] at h2;split at h2<;>cases h2
  obtain⟨j,hj⟩:∃j,a9[i]?=some j:=⟨_,az hi⟩
  have hs:Z[j]?=some (some v):=by
   unfold o7 at h2;rw[aG (by simpa using hi),aF,hj] at h2;simp only[Option.map_some] at h2;cases e:Z[j]? with
   |none=>rw[e] at h2;cases h2
   |some a=>rw[e] at h2;exact du some (aB h2)
  obtain⟨y,HY,wW,rn,Bl⟩:=S.JO i j hj;have ey:y=x:=by
   have sj:N'[i]?=some x:=yg;rw[HY] at sj;exact aB sj
  subst ey;obtain⟨m0,YZ,hl⟩:=I.loc;obtain ⟨u,ru,hu⟩:=hl j y v wW hs (by
   rcases Bl with z|z
   ·exact .inr (.inl z)
   ·exact .inr (.inr z))
  refine⟨u,ru,.inr ⟨C4 (env:=X.env) (names:=scope.names) rn,?_⟩⟩;rcases hu with⟨z,_⟩|⟨_,c,BD,lP⟩
  ·rcases Bl with z'|z'<;>(rw[z'] at z;cases z)
  ·obtain⟨c',rW⟩:=S.sN y rn;have e:=S.cin y c' rW;rw[BD] at e;cases e;obtain⟨o,e1,e2⟩:=lP;exact⟨c,(frees rn).trans rW,o,k _ _ e1,e2⟩
 ·intro x c h;rcases two h with⟨_,q,_⟩|⟨q,_⟩
  ·exact⟨none,q⟩
  ·obtain⟨v,o,e1,e2⟩:=I.cell x c (S.cin x c q);exact⟨v,o,k _ _ e1,e2⟩
 ·exact I.br.fresh hC
 ·intro x c h;rcases two h with⟨l,_⟩|⟨q,_⟩
  ·exact I.br.fresh (cL (jj hC l))
  ·exact I.dJ x c (S.cin x c q)
 ·intro p hp;have fz:p∈X.pn++pins:=by simpa[a5] using hp
  obtain⟨p1,p2,p3,p4,p5⟩:=I.pin p fz;refine⟨k _ _ p1,p2,Bb _ _ p1,λz=>?_,p5⟩;rcases aw.mp (I.E1 _ z) with z|z
  ·exact p3 z
  ·exact p4 z
 ·unfold o7;show _=N'.length;rw[bt,ay,hU];have:=S.yv;omega
theorem Inv.yY{hZ:List (Addr×Obj)}{bL:St}{H':Hp}{s':Shared}(I:Inv X pins Z H s)(hf:∀b∈fp,p9 X pins H b)(J:Inv (a5 X pins scope N' cl C s H fp) hZ bL H' s'):Inv X pins Z H' s' :=
 I.zB (ch:=fp) J.os J.base J.br J.bare λb hb=>by
  obtain⟨f0,f1,f2,f3,f4,f5⟩:=hf b hb;exact⟨f3,f1,f4,f5⟩
theorem Inv.So{D:Addr}{ys:List V}{aL:List Value}{n:Nat}(I:Inv X pins Z H s)(f:p9 X pins H D)(hs:X.cR.heap.objs.size<=D)(hv:Vals ys aL)(hz:ys.length<=sizeLine)(ho:s.heap.get? D=some { cls:=.type "list",data:=.seq aL.toArray n }):Inv X pins Z (upd H D (.lst ys)) s:=by
 obtain⟨f0,f1,f2,f3,f4,f5⟩:=f;have eR:∀b o,X.cR.heap.get? b=some o->b≠D:=λb o e z=>absurd (aq e) (by rw[z];exact ji.mpr hs);have tup:∀b u,H b=some u->upd H D (.lst ys) b=some u:=λb u e=>by rw[a7 (d4 e f0)];exact e
 refine⟨I.ok,I.os,I.bare,⟨?_,?_,?_,I.base.there,?_,?_,?_⟩,I.loc,I.cell,?_,?_,?_,?_,I.len⟩
 ·exact λb o e n1 n2 n3=>I.base.keep b o e n1 n2 n3
 ·exact λb o e n1 n2 n3=>I.base.slot b o e n1 n2 n3
 ·exact λb o e n1 n2=>by rw[a7 (eR b o e)];exact I.base.free b o e n1 n2
 ·exact λb xs e=>tup _ _ (I.base.gL b xs e)
 ·exact λb o u e=>tup _ _ (I.base.gD b o u e)
 ·exact λb ps e=>by
   obtain⟨more,q⟩:=I.base.gM b ps e;exact⟨more,tup _ _ q⟩
 ·rw[a7 f1.symm];exact I.free
 ·exact λx c e=>by rw[a7 (f4 x c e)];exact I.dJ x c e
 ·intro p hp;obtain⟨p1,p2,p3⟩:=I.pin p hp;exact⟨p1,by rw[a7 (f5 p hp)];exact p2,p3⟩
 ·intro a o e;by_cases ha:a=D
  ·subst ha;rw[f9] at e;cases e;exact⟨hz,aL,n,hv,ho⟩
  ·rw[a7 ha] at e;have q:=I.br a o e;refine q.P2 (λb u _ h=>h) (λb hb=>tup _ _ hb) (λb xs hb=>tup _ _ hb)
end
def zO(wi:TI)(a9:List Nat)(n:Nat)(g:TG)(tc:TT)(te:TE):TE:=λZ H Q=>wi Z H λJ H1=>∃W:Nat->Nat->List V->St->Hp->Prop,(∃m,W 0 m [] (o7 Z a9 n) H1)/\∀i m ys Z H,W i m ys Z H ->
 (J.stop i H/\∀p,H p=none->Q (.ref p) (upd H p (.lst ys))) \/
 (J.go i H/\ys.length < sizeLine/\∀ x H',J.mM i H x H'->g x Z H' λcj H2=>tc cj H2 λb H3 =>
  if b=true then te cj H3 λy H4=>∃ m',m' < m/\W (i + 1) m' (ys ++ [y]) cj H4 else ∃ m',m' < m/\W (i + 1) m' ys cj H3)
noncomputable abbrev L4(aL:List Value)(n:Nat):Obj:={ cls:=.type "list",data:=.seq aL.toArray n }
section
variable{pins:List (Addr×Obj)}{Z:St}{H:Hp}
theorem Er{it:Addr}{tn:Nat->Heap->Prop}{J:It}{xx:Addr->Shared->Hp->Value->Shared->Prop}{RR:Value->Addr->Result->Shared->Prop}{E:Value->Shared->Prop}{W:Nat->Nat->List V->St->Hp->Prop}{m0:Nat}{Q:VK}(S:cx X scope N' a9 cl)(hc:X.calm=true)(hg:∀C s H,PG (a5 X pins scope N' cl C s H fp) tg g)(ht:∀C s H,jf (a5 X pins scope N' cl C s H fp) ifs tc)(he:∀C s H,PE ((a5 X pins scope N' cl C s H fp).V8 (xx C s H)) elt te)(I:Inv X pins Z H s)(T:Turn X.prog X.w X.K tg J fp it tn)(st:tn 0 s.heap)(hf:∀b∈fp,p9 X pins H b)(w0:W 0 m0 [] (o7 Z a9 N'.length) H)(turn:∀ i m ys Z H,W i m ys Z H->(J.stop i H/\∀ p,H p=none->Q (.ref p) (upd H p (.lst ys))) \/
   (J.go i H/\ys.length < sizeLine/\∀ x H',J.mM i H x H'->g x Z H' λcj H2=>tc cj H2 λb H3 =>
    if b=true then te cj H3 λy H4=>∃ m',m' < m/\W (i + 1) m' (ys ++ [y]) cj H4 else ∃ m',m' < m/\W (i + 1) m' ys cj H3))(se:∀D C s' H' m,Inv X pins Z H' s'->Q (.ref D) H'->s'.heap.Ns C m->H' C=none->s.heap.objs.size<=C->RR (.ref D) C (.ok .next) s')(IV:∀D C e s',s.heap.objs.size<=C->xx C s H e s'->notedBy (model X.prog X.w) X.A (compEnvC scope (F0 scope cl C) C X.env) (λe s'=>RR (.ref D) C (.error e) s') e s') :
  wpAny (model X.prog X.w) X.A (newList []) (λacc cY=>wpAny (model X.prog X.w) X.A (newFunctionEnv scope X.env.globals cl [] X.env.qual none .none (some X.env)) (λiY gg =>
   iY.frame=X.env.frame/\codeAny (model X.prog X.w) X.A (.compStart (.ListComp elt [⟨tg,iter,ifs,0⟩] scope pos) 0 (.ref it) acc { iY with scope:=relabel scope X.env }) (RR acc iY.locals) gg) E cY) E s:=by
 refine bz (N3 λcu et dh ju=>?_);dsimp only at et dh ju ⊢;generalize kc:s.heap.push { cls:=.type "list",dict:=none,data:=.seq ([]:List Value).toArray }=H2 at et dh ju ⊢;generalize eD:s.heap.objs.size=D at *;have hC:H2.objs.size=D+1:=by rw[<- kc,cP,eD]
 generalize eC:H2.objs.size=C at *;have nN:D≠C:=by omega
 have lt:∀b o,s.heap.get? b=some o->b<D:=λb o e=>by rw[<- eD];exact aq e
 have lE:D<=C:=by omega
 have mf:∀b o,s.heap.get? b=some o->b≠C:=λb o e=>aE (ak (lt b o e) lE);have js:∀b o,s.heap.get? b=some o->b≠D:=λb o e=>aE (lt b o e);have old:∀b o,s.heap.get? b=some o->cu.get? b=some o:=λb o e=>dh b o (kc▸ah _ e);have gO:cu.get? D=some (L4 [] 0):=dh _ _ (by rw[<- kc,<- eD];exact au _ rfl);have fU:∀b∈fp,∃o,s.heap.get? b=some o:=λb hb=>by
  obtain⟨o,e,_⟩:=T.obj _ _ st b hb;exact⟨o,e⟩
 have nM:D∉fp:=λhm=>by
  obtain⟨o,e⟩:=fU D hm;exact js D o e rfl
 have X1:Inv (a5 X pins scope N' cl C s H fp) [] (o7 Z a9 N'.length) H { s with heap:=cu } :=
  I.Z1 S hc hf fU (by rw[eD];omega) ⟨_,et⟩ old ju
 have nB:tn 0 cu:=T.keep _ _ _ st λb _ o e=>old b o e;have sv:∀{H':Hp},(∀b∈fp,H' b=none)->∀b∈fp,p9 (a5 X pins scope N' cl C s H fp) [] H' b:=λhn b hb=>by
  obtain⟨f0,f1,f2,f3,f4,f5⟩:=hf b hb;obtain⟨o,e⟩:=fU b hb;refine⟨hn b hb,?_,?_,.inl hb,λx c q=>(M0 ju q).elim (λl z=>absurd (bW (z▸l) (ak (lt b o e) lE)) (aX _)) λq=>f4 x c (S.cin x c q),λp hp=>?_⟩
  ·exact mf b o e
  ·exact λz=>by
    rcases aw.mp (I.E1 b z) with z|z
    ·exact f1 z
    ·exact f2 z
  ·have fz:p∈X.pn++pins:=by simpa[a5] using hp
   exact f5 p fz
 have fD:∀{H':Hp},H' D=none->p9 (a5 X pins scope N' cl C s H fp) [] H' D:=λhn=>by
  refine⟨hn,nN,λz=>?_,.inr (by show s.heap.objs.size<=D;omega),λx c q=>?_,λp hp=>?_⟩
  ·exact absurd (I.pB (a:=D) (by omega)) λjO=>by
    rcases aw.mp (I.E1 D z) with z|z
    ·exact absurd I.lt (by rw[<- z,eD];exact aX _)
    ·exact jO z
  ·rcases M0 ju q with l|q
   ·exact λz=>absurd (ak (z▸l) lE) (aX _)
   ·obtain⟨v,o,e,_⟩:=I.cell x c (S.cin x c q);exact js c o e
  ·have fz:p∈X.pn++pins:=by simpa[a5] using hp
   exact js _ _ (I.pin p fz).1
 have lz:∀{H':Hp} {s':Shared} {bL:St} {aL:List Value} {n:Nat},Inv (a5 X pins scope N' cl C s H fp) [] bL H' s'->H' D=none->s'.heap.get? D=some (L4 aL n) ->
   Inv (a5 X pins scope N' cl C s H fp) [(D,L4 aL n)] bL H' s':=λ{H' s' bL aL n} J0 hn e=>J0.w9 λp hp=>by
  have z:p=(D,L4 aL n):=by simpa using hp
  subst z;obtain⟨f0,f1,f2,_⟩:=fD hn;exact⟨e,f0,f1,f2,λv z=>nomatch z⟩
 have iy:∀{H':Hp} {aL:List Value} {n:Nat},(∀b∈fp,H' b=none)->∀b∈fp,p9 (a5 X pins scope N' cl C s H fp) [(D,L4 aL n)] H' b:=λ{H' aL n} hn b hb=>by
  obtain⟨f0,f1,f2,f3,f4,f5⟩:=sv hn b hb;refine⟨f0,f1,f2,f3,f4,λp hp=>?_⟩;have fz:p∈(a5 X pins scope N' cl C s H fp).pn\/p=(D,L4 aL n):=by simpa using hp
  rcases fz with z|z
  ·exact f5 p (cM _ z)
  ·subst z;exact λz=>nM (by rw[show D=b from z];exact hb)
 have loop:∀cY:Shared,cY={ s with heap:=cu } ->
   codeAny (model X.prog X.w) X.A (.compLoop (.ListComp elt [⟨tg,iter,ifs,0⟩] scope pos) 0 (.ref it) (.ref D) (compEnvC scope (F0 scope cl C) C X.env)) (RR (.ref D) C) cY:=by
  rintro cY rfl;refine Wr (λn s'=>∃ i ys bL H' aL nn,Inv (a5 X pins scope N' cl C s H fp) [] bL H' s'/\tn i s'.heap/\(∀ b ∈ fp,H' b=none)/\H' D=none/\Vals ys aL/\ys.length <= sizeLine /\
   s'.heap.get? D=some (L4 aL nn)/\W i n ys bL H') ?_ m0 ⟨0,[],_,H,[],0,X1,nB,λb hb=>(hf b hb).1,I.br.fresh (by omega),.nil,bX _,gO,w0⟩
  rintro n s3 ⟨i,ys,gA,H3,aL,nn,I3,lp,lT,d3,v3,z3,o3,w3⟩;have oh:=lz I3 d3 o3;rcases turn i n ys gA H3 w3 with⟨stop,q⟩|⟨go,hz,step⟩
  ·refine bS (T.done (a5 X pins scope N' cl C s H fp) rfl rfl rfl rfl i _ s3 _ H3 _ oh (iy lT) lp stop) λr s4 ⟨hr,I4⟩=>?_;subst hr;have o4:=(I4.pin (D,L4 aL nn) (by simp)).1;have J4:Inv X pins Z H3 s4:=I.yY hf I4;have sx:p9 X pins H3 D:=by
    refine⟨d3,bp (by rw[<- eD];exact I.lt),I.pB (by omega),.inr (by have:=I.sz;omega),λx c q=>?_,λp hp=>?_⟩
    ·obtain⟨v,o,e,_⟩:=I.cell x c q;exact js c o e
    ·exact js _ _ (I.pin p hp).1
   obtain⟨mC,rH,_⟩:=I4.loc;exact se D C s4 (upd H3 D (.lst ys)) mC (J4.So sx (by have:=I.sz;omega) v3 z3 o4) (q D d3) rH (by rw[a7 nN.symm];exact I4.free) (by omega)
  ·refine bS (T.item (a5 X pins scope N' cl C s H fp) rfl rfl rfl rfl i _ s3 _ H3 _ oh (iy lT) lp go) λr s4 ⟨u,hr,h4⟩=>?_;subst hr;refine bS h4 λ_ s5 aS=>?_;obtain⟨x,H5,I5,r5,y5,jL,oX⟩:=aS;have o5:=I5.pin (D,L4 aL nn) (by simp);have pH:=I5.pinned (iy oX) (T.obj _ _ jL);refine bS (hg C s H _ s5 _ H5 x u _ pH r5 (step x H5 y5)) λ_ s6 aS=>?_;obtain⟨iB,H6,I6,q6⟩:=aS;refine bS (ht C s H _ s6 iB H6 _ I6 q6) λok s7 ⟨H7,I7,q7⟩=>?_;have back:∀{nk:St} {H8:Hp} {s8:Shared},Inv (a5 X pins scope N' cl C s H fp) ([(D,L4 aL nn)]++P7 fp s5.heap) nk H8 s8->(∀b∈fp,H8 b=none)/\tn (i+1) s8.heap/\H8 D=none/\s8.heap.get? D=some (L4 aL nn) :=
    λ{nk H8 s8} I8=>by
     have pf:∀b∈fp,∀o,s5.heap.get? b=some o->s8.heap.get? b=some o/\H8 b=none:=λb hb o e=>by
      have:=I8.pin (b,o) (aU _ (aU _ (J8 hb e)));exact⟨this.1,this.2.1⟩
     have pd:=I8.pin (D,L4 aL nn) (by simp);refine⟨λb hb=>?_,T.keep _ _ _ jL λb hb o e=>(pf b hb o e).1,pd.2.1,pd.1⟩;obtain⟨o,e,_⟩:=T.obj _ _ jL b hb;exact(pf b hb o e).2
   cases ok with
   |false =>
    obtain⟨m',hm,w7⟩:=q7;obtain⟨b1,b2,b3,b4⟩:=back I7;exact⟨m',hm,i+1,ys,iB,H7,aL,nn,I7.w9 λp hp=>absurd hp (by simp),b2,b1,b3,v3,z3,b4,w7⟩
   |true =>
    refine aV (he C s H _ s7 iB H7 _ (I7.V8 _) q7) (λxv s8 aS=>?_) λe s' hx=>IV D C e s' (by omega) hx;obtain⟨y,H8,I8,r8,m',hm,w8⟩:=aS;have I8:=I8.yC;obtain⟨b1,b2,b3,b4⟩:=back I8;refine cK F.slot_list_append ⟨_,b4,rfl⟩ F.entry_list_append (F.args_list_append_2 _ _) (Yv D aL.toArray nn xv (by rw[av];have:=v3.length;omega)) ⟨b4,?_⟩;have q:∃n',(s8.heap.update D (Obj.mapSeq (·.push xv))).get? D=some (L4 (aL++[xv]) n'):=by
     have q0:=Zw b4 (·.push xv);have e0:aL.toArray.push xv=(aL++[xv]).toArray:=by simp
     rw[e0] at q0;exact⟨_,q0⟩
    obtain⟨n',q⟩:=q;have ua:Inv (a5 X pins scope N' cl C s H fp) [] iB H8 s8:=I8.w9 λp hp=>absurd hp (by simp);obtain⟨f0,f1,f2,f3,f4,f5⟩:=fD (H':=H8) b3;have kp:∀b o,b≠D->s8.heap.get? b=some o->(s8.heap.update D (Obj.mapSeq (·.push xv))).get? b=some o:=λb' u hb hu=>(bR s8.heap (Obj.mapSeq (·.push xv)) (bg hb)).trans hu;refine⟨m',hm,i+1,ys++[y],iB,H8,aL++[xv],n',ua.turned (it:=D) (t':=s8.toks) kp f0 f1 f3 f4 f5,T.keep _ _ _ b2 λb hb o e=>kp b o (λz=>nM (by rw[<- z];exact hb)) e,b1,b3,v3.append (.cons r8 .nil),?_,q,w8⟩;rw[bt,hJ];omega
 exact⟨rfl,codeAny_compStart_list (loop _ rfl) (T.self _ 0 _ _ _ nB (loop _ rfl))⟩
theorem Inv.zF{h':Heap}{s2:Shared}{H2:Hp}(I:Inv X pins Z H s)(hC:s2.heap.objs.size<=C)(I2:Inv X pins Z H2 s2)(hn:H C=none)(sb:Heap.SameBut C s.heap h'):Inv X pins Z H { s with heap:=h' }:=by
 have f:=I2.Y8 (b:=C) (H':=H) hC hn;obtain⟨f0,f1,f2,f3,f4,f5⟩:=f;exact I.turned (t':=s.toks) (λb o hb e=>sb.extBut b o hb e) f0 f1 f3 f4 f5
theorem Et{M:Model}{E:Value->Shared->Prop}{a:Sem Value}{b:Sem Env}{P:Env->Prop}{Q:Value->Env->Shared->Prop}(h:wpAny M A a (λx s1=>wpAny M A b (λy s2=>P y/\Q x y s2) E s1) E s):wpAny M A a (λx s1=>wpAny M A b (λy s2=>Q x y s2) E s1) E s :=
 aV h (λ_ _ h=>aV h (λ_ _ h=>h.2) λ_ _ z=>z) λ_ _ z=>z
theorem Gf{wi:TI}(S:cx X scope N' a9 cl)(hc:X.calm=true)(hi:PI X tg iter wi)(hg:∀pins C s H fp,PG (a5 X pins scope N' cl C s H fp) tg g)(ht:∀pins C s H fp,jf (a5 X pins scope N' cl C s H fp) ifs tc)(he:∀pins C s H fp,PE (a5 X pins scope N' cl C s H fp) elt te)(hs:∀x,foldedSetIterable iter X.env x=pure x):PE X (.ListComp elt [⟨tg,iter,ifs,0⟩] scope pos) (zO wi a9 N'.length g tc te):=by
 intro pins s Z H Q I h;rw[eval_ListComp];refine eF (use:=none) rfl hs S.ni S.kind S.names (bS (hi pins s Z H _ I h) λxv bx cu=>bS cu λpP eJ fT=>?_);obtain⟨it,fp,tn,J,H2,e,I2,T,iP,f2,W,⟨m0,w0⟩,turn⟩:=fT;subst e;refine Et (Er (xx:=λ_ _ _ _ _=>False) (RR:=λacc C=>compPost (model X.prog X.w) X.A X.xe none (EP X pins Z Q) acc C) S hc (λC s H=>hg pins C s H fp) (λC s H=>ht pins C s H fp) (λC s H=>he pins C s H fp) I2 T iP f2 w0 turn ?_ λ_ _ _ _ _ z=>z.elim);intro D C s' H' m I' q hn hC hsz;exact⟨m,hn,λh' sb=>⟨.ref D,H',I'.zF hsz I2 hC sb,rfl,q⟩⟩
theorem Wg{qK px:Pos}{wi:TI}{i:Nat}(S:cx X scope N' a9 cl)(hc:X.calm=true)(hi:PI X tg iter wi)(hg:∀pins C s H fp,PG (a5 X pins scope N' cl C s H fp) tg g)(ht:∀pins C s H fp,jf (a5 X pins scope N' cl C s H fp) ifs tc)(he:∀pins C s H fp,PE (a5 X pins scope N' cl C s H fp) elt te)(hs:∀x,foldedSetIterable iter X.env x=pure x)(hN:X.N.Nodup)(rO:X.N[i]?=some x)(hx:Loc X.env.scope x)(hf:X.fn x=true\/X.env.scope.names.lookup x=some .local) :
  PS X (.Assign [.Name x px] (.ListComp elt [⟨tg,iter,ifs,0⟩] scope pos) qK) (sP (zO wi a9 N'.length g tc te) (qq i)):=by
 intro pins s Z H D I h;have uA:∃b,swapsWith (.ListComp elt [⟨tg,iter,ifs,0⟩] scope pos) (some (.Name x px)) qK.line X.env=pure b:=⟨_,rfl⟩
 obtain⟨b,uA⟩:=uA;cases b with
 |false=>exact Fy hN rO hx (Gf S hc hi hg ht he hs) uA hf pins s Z H D I h
 |true =>
  rw[exec_Assign_Name_used _ _ _ _ uA];refine aa (cH (aa ?_));show wpAny _ X.A (do let _ <- comprehension (.ListComp elt [⟨tg,iter,ifs,0⟩] scope pos) scope X.env _ (newList []) false (eval iter X.env) (some (assign (.Name x px) X.env))) _ _ s;refine aa (aV (eF (use:=some (assign (.Name x px) X.env)) (Q:=λ_ s'=>SP X pins D .next s') rfl hs S.ni S.kind S.names
   (bS (hi pins s Z H _ I h) λxv bx cu=>bS cu λpP eJ fT=>?_)) (λ_ s' hq=>ai (ai hq)) λ_ _ e=>e)
  obtain⟨it,fp,tn,J,H2,e,I2,T,iP,f2,W,⟨m0,w0⟩,turn⟩:=fT;subst e;refine Et (Er (xx:=λ_ _ _ _ _=>False) (Q:=λv H1=>qq i v Z H1 D.nx) (RR:=λacc C=>compPost (model X.prog X.w) X.A X.xe (some (assign (.Name x px) X.env)) (λ_ s'=>SP X pins D .next s') acc C) S hc (λC s H=>hg pins C s H fp) (λC s H=>ht pins C s H fp) (λC s H=>he pins C s H fp) I2 T iP f2 w0 turn ?_ λ_ _ _ _ _ z=>z.elim);intro Dl C s' H' m I' q hn hC hsz;show wpAny _ X.A (assign (.Name x px) X.env (.ref Dl)) _ _ _;refine wpAny_assign_Name (Ei I' hN rO hx (v:=.ref Dl) rfl (λs3 I3 ⟨a,sb,ha⟩=>?_) hf);have IX:C≠a:=by
   obtain⟨f0,f1,f2,f3,f4,f5⟩:=I2.Y8 (b:=C) (H':=H') hsz hC;rcases ha with z|z
   ·rw[z];exact f1
   ·exact λz'=>f4 _ _ z z'.symm
  obtain⟨f0,f1,f2,f3,f4,f5⟩:=I2.Y8 (b:=C) (H':=H') hsz hC;refine⟨m,hn.sameBut sb IX,λh3 Ho=>⟨_,H',I3.turned (t':=s3.toks) (λb o hb e=>Ho.extBut b o hb e) f0 f1 f3 f4 f5,q⟩⟩
end
end L2
namespace HT
open PySem PyProof.Rows
section
variable{prog:Program}{w:World}{A:Around}{E:Value->Shared->Prop}{s:Shared}
theorem WG{t b:Addr}{ws:List Value}{Q:Value->Shared->Prop}(ht:IsTup s.heap t #[])(hb:IsTup s.heap b ws.toArray)(h1:Q (.ref b) s):wpAny (model prog w) A (binaryOp .Add (.ref t) (.ref b)) Q E s:=by
 obtain⟨⟨cls,dd,data,sl⟩,ho,hc,n,hd⟩:=id ht;obtain⟨⟨sL,nT,data2,jV⟩,jN,lP,n2,hd2⟩:=id hb;simp only at hc hd lP hd2;subst hc hd lP hd2;exact Zt ⟨_,ho,rfl⟩ ⟨_,jN,rfl⟩ ir kJ gJ gy (gb _ _)
   (tuple_addW0 t b #[] ws.toArray n n2 dd nT sl jV rfl) ⟨ho,jN,h1⟩
theorem Tr{t sl:Addr}{items:Array Value}{vl vu:Value}{lo hi:Option Int}{Q:Value->Shared->Prop}(ht:IsTup s.heap t items)(hs:s.heap.IsSliceOf sl vl vu .none)(pl:IsPart vl lo)(pu:IsPart vu hi)(hw:df items.size 0 lo=0/\df items.size items.size hi=items.size)(h:Q (.ref t) s):wpAny (model prog w) A (getItem (.ref t) (.ref sl)) Q E s:=by
 obtain⟨os,oJ,nK,rS⟩:=id hs;have xF:s.TypeIs (.ref sl) "slice":=⟨os,oJ,nK⟩
 unfold getItem
 try with_reducible refine bj ?_
 first|refine aa (ai ?_)|skip
 refine aa (wpAny_sequenceKey ht.typeIs (by decide) ?_);refine aa (eO (name:=Str.ofString "__getitem__") ht.typeIs bG
  (bD bG ht.typeIs entry_tuple_getitem ?_ (args_tuple_getitem _ _)))
 show wpAny _ _ (Builtin.Tuple.tupleItemsOf (.ref t) >>= _) _ _ s;refine aa (tupleItemsOf_ ht ?_);refine aa (cU xF ?_);rw[aK (by decide)];refine aa (P4 hs pl pu ?_);have wV:((((df items.size 0 lo:Nat):Int)==0&&(1:Int)==1&&(df items.size items.size hi-df items.size 0 lo)==items.size)=true):=by
  rw[hw.1,hw.2];simp
 show wpAny _ _ (if(((df items.size 0 lo:Nat):Int)==0&&(1:Int)==1&&(df items.size items.size hi-df items.size 0 lo)==items.size)=true then _ else _) _ _ s;rw[aK wV];obtain⟨o,ho,hc,_⟩:=id ht;unfold Builtin.Tuple.tupleIsExact;refine aa (aa (cU ht.typeIs (ai ?_)));rw[aK (by decide)]
 first
  |exact wpAny_bind (wpAny_rule (wpAny_bind (wpAny_pure ⟨_,rfl,wpAny_pure h⟩)))
  |exact wpAny_bind (wpAny_rule (wpAny_pure ⟨_,rfl,wpAny_pure h⟩))
  |exact wpAny_bind (wpAny_rule (wpAny_bind (wpAny_pure (wpAny_pure ⟨_,rfl,wpAny_pure h⟩))))
end
end HT
namespace L2
open PySem PySem.Spec PyProof.Rows
section
variable{X:Cx}
def Lh(K:PySem.W.Frag):R2:=λx y H Q=>∃a b xs ys,x=.ref a/\y=.ref b/\gw K H a xs/\gw K H b ys/\xs.length+ys.length<=sizeLine /\
 (xs=[]->Q (.ref b) H)/\(ys=[]->Q (.ref a) H)/\(∀p,H p=none->Q (.ref p) (upd H p (.tup (xs++ys))))
theorem Xm:eY X (binaryOp .Add) (Lh X.K):=by
 intro pins s Z H x y v u Q I rx ry h;obtain⟨a,b,xs,ys,rfl,rfl,ha,hb,hz,q0,q1,q2⟩:=h;by_cases hx:xs=[]
 ·subst hx;cases rx;cases ry;obtain⟨aL,r1,p1,_⟩:=I.tuple ha;obtain⟨lG,r2,p2,_⟩:=I.tuple hb;cases r1;exact HT.WG p1 p2 ⟨.ref b,H,I,rfl,q0 rfl⟩
 ·exact Nd pins s Z H _ _ v u Q I rx ry ⟨a,b,xs,ys,rfl,rfl,ha,hb,hx,hz,q1,λ_=>q2⟩
def RT(K:PySem.W.Frag):V->Option Int->Option Int->Hp->VK->Prop:=λx lo hi H Q=>∃a xs,x=.ref a/\gw K H a xs /\
 (Q9 xs lo hi=xs->Q (.ref a) H)/\∀p,H p=none->Q (.ref p) (upd H p (.tup (Q9 xs lo hi)))
theorem Ob:tV X (RT X.K):=by
 intro pins s Z H x v vl vu lo hi sl Q I rx hs pl pu h;obtain⟨a,xs,rfl,hx,q0,q⟩:=h;by_cases hw:HT.df xs.length 0 lo=0/\HT.df xs.length xs.length hi=xs.length
 ·cases rx;obtain⟨aL,r,ht,hz⟩:=I.tuple hx;have hlen:aL.toArray.size=xs.length:=by rw[av];exact r.length.symm
  refine⟨"tuple",_,bG.lookup,ht.typeIs,?_⟩;exact HT.Tr ht hs pl pu (by rw[hlen];exact hw) ⟨.ref a,H,I,rfl,q0 (by unfold Q9;rw[hw.1,hw.2];simp)⟩
 ·exact LF pins s Z H _ v vl vu lo hi sl Q I rx hs pl pu ⟨a,xs,rfl,hx,hw,q⟩
theorem VL:j5 X (.builtin "isinstance") (λxs H Q=>∃x t c b,xs=[x,.ty c]/\gi X.K H x t/\PySem.W.kitOne X.K t (.type c)=some b/\Q (.bl b) H):=by
 intro pins s Z H xs us Q I r h;obtain⟨x,t,c,b,rfl,hT,hk,q⟩:=h;obtain⟨u,w',rfl,ru,eE⟩:=vals2 r;cases (show w'=Value.type c from eE);exact TZ I ru hT hk λtk=>⟨.bl b,H,I.tok tk,rfl,q⟩
theorem Tv(hc:X.calm=true):j5 X (.builtin "all") (λxs H Q=>∃(a:Addr) (bs:List Bool),xs=[.ref a]/\eT X.K H a (bs.map V.bl)/\Q (.bl (bs.all id)) H):=by
 intro pins s Z H xs us Q I r h;obtain⟨a,bs,rfl,ha,q⟩:=h;obtain⟨u,rfl,ru⟩:=vals1 r;cases ru;obtain⟨aL,rv,p,hz⟩:=I.list ha;refine call_all_walk ?_;refine gP p.isList ?_;have eR:a≠s.heap.objs.size:=by
  obtain⟨o,e,_⟩:=id p.isList;exact aE (aq e)
 have hl:=rv.length;rw[ay] at hl;refine⟨s.heap.objs.size,_,_,_,_,_,λi=>bs.getD i true,rfl,Walks.list (A:=X.A.in1) (I.ok.hd hc) _ a eR aL.toArray,⟨⟨_,au _ rfl,rfl,rfl⟩,?_⟩,?_,λh' tk k=>?_⟩
 ·obtain⟨o,e,q1⟩:=id p.isList;exact⟨o,ah _ e,q1⟩
 ·intro i v s' Q' E' hP hQ;have hv:aL[i]?=some v:=by simpa using hP
  have hi:i<bs.length:=by rw[hl];exact(ax.mp hv).1
  obtain⟨u',rA,wy⟩:=rv.get (i:=i) (x:=V.bl bs[i]) (by rw[aF,az hi];rfl);rw[hv] at rA;cases rA;cases (show v=Value.bool bs[i] from wy);refine bZ ?_;have:bs.getD i true=bs[i]:=by simp[List.getD,hi]
  dsimp only at hQ;rw[this] at hQ;exact hQ
 ·have e1:(List.range aL.toArray.size).all (λi=>bs.getD i true)=bs.all id:=by
   rw[av,<- hl];rw[bY];simp only[List.all_eq_true,List.mem_range,id];constructor
   ·intro hh x hx;obtain⟨i,hi,rfl⟩:=dw.mp hx;have:=hh i hi;simpa[List.getD,hi] using this
   ·intro hh i hi;have:=hh bs[i] (eU hi);simpa[List.getD,hi] using this
  rw[e1];exact ⟨.bl (bs.all id),H,I.kept (t':=tk) λb o e=>k b o (by
   intro hb;have:b=s.heap.objs.size:=by simpa using hb
   exact absurd (aq e) (by rw [this];exact aX _)) (ah _ e),rfl,q⟩
end
end L2
namespace HT
open PySem PyProof.Rows
end HT
namespace L2
open PySem PySem.Spec PyProof.Rows
variable{X:Cx}{pos p:Pos}{w:World}{H H':Hp}{Z:St}{s s':Shared}{B:Heap}{ea C:Addr}{a0:Value}{ta:TA}
theorem j4.get{P:Program}{h:Heap}{a:Addr}:∀{o:HO},j4 P w H h a o->∃ob,h.get? a=some ob
 |.lst _,x=>by obtain⟨_,_,_,_,e⟩:=x;exact⟨_,e⟩
 |.tup _,x=>by obtain⟨_,_,_,o,e,_⟩:=x;exact⟨o,e⟩
 |.dK _,x=>by obtain⟨_,_,_,_,o,es,ep,e,_⟩:=x;exact⟨o,e⟩
 |.dT _,x=>by obtain⟨_,_,_,_,o,es,ep,e,_⟩:=x;exact⟨o,e⟩
 |.set _ _,x=>by obtain⟨o,es,ep,t,e,_⟩:=x;exact⟨o,e⟩
 |.ins _ _ _,x=>by obtain⟨_,_,_,e,_⟩:=x;exact⟨_,e⟩
 |.own _,x=>x
 |.xd _,x=>by obtain⟨mA,n,_⟩:=x;obtain⟨od,e,_⟩:=DY n;exact⟨od,e⟩
 |.kO _ _,x=>by obtain⟨_,_,_,e⟩:=x;exact⟨_,e⟩
 |.iW _ _,x=>⟨_,x.1⟩
 |.ny _,x=>⟨_,x⟩
 |.met _ _,x=>⟨_,x⟩
 |.ext _,x=>x.2.1
def zA(H':Hp)(h0:Heap)(l:List Env)(e:Value)(C:Addr)(h:Heap):Prop :=
 ∃(ea:Addr) (a0:Value) (B:Heap),e=.ref ea/\Heap.FlyingW B l ea (.ref C) a0 h/\∀b o,h.get? b=some o->b∉ft l->(H' b≠none\/∃o0,h0.get? b=some o0)->B.get? b=some o
def gj(P:Program)(w:World):lY:=λouter H s E e s'=>∃(C:Addr) (H':Hp),s'.os=s.os/\AllBare s'.gens/\Un (ft outer) [] H H' s.heap s'.heap/\fA P w H' s'.heap/\zA H' s.heap outer e C s'.heap/\E (.ref C) none H'
section
variable{pins:List (Addr×Obj)}{E:XK}{e:Value}
theorem Inv.flew(I:Inv X pins Z H s)(h:gj X.prog X.w X.stack H s E e s'):∃C H',Inv X pins Z H' s'/\zA H' s.heap X.stack e C s'.heap/\E (.ref C) none H':=by
 obtain⟨C,H',ho,hb,hu,br,fl,hE⟩:=h;exact⟨C,H',I.zB (ch:=[]) ho hu br hb (by simp),fl,hE⟩
theorem Y7(I:Inv X pins Z H s){b:Addr}(hb:b∈ft X.stack):∃o,s.heap.get? b=some o/\∀vs,o.data≠.fields vs:=(I.stack.mem hb).2
theorem zC{mr:Heap}(I:Inv X pins Z H s)(ei:X.stack=X.env::X.outer)(hex:X.ex=[])(hf:X.env.frame=some X.env.locals)(pQ:∀b o,s.heap.get? b=some o->b∉ft X.stack->(H b≠none\/∃o0,X.cR.heap.get? b=some o0)->B.get? b=some o)(sl:∀b∈ft X.stack,∀o,s.heap.get? b=some o->∃sl,mr.get? b=some { o with slots:=sl })(fw:Heap.FlyingW B X.outer ea (.ref C) a0 mr)(hE:E (.ref C) none H):gj X.prog X.w X.outer X.iA X.cR E (.ref ea) { s with heap:=mr }:=by
 have xf:∀b,b∈ft X.outer->b∈ft X.stack:=λb hb=>by rw[ei];unfold ft at hb ⊢;rw[dI,hf];exact bI _ hb
 have qS:∀b o,X.cR.heap.get? b=some o->b∉ft X.outer->b∉ft X.stack:=λb o e hb z=>by
  rcases aw.mp (I.E1 b z) with z|z
  ·exact absurd (aq e) (by rw[z];exact ji.mpr I.ok.above)
  ·exact hb z
 have mO:∀b u,H b=some u->b∉ft X.stack:=λb u e z=>by rw[I.vJ b z] at e;cases e
 have kept:∀b o,s.heap.get? b=some o->b∉ft X.stack->(H b≠none\/∃o0,X.cR.heap.get? b=some o0)->mr.get? b=some o:=λb o e n q=>fw.1 b o (pQ b o e n q);have qU:∀b,b∉X.ex:=λb=>by rw[hex];simp
 refine⟨C,H,I.os,I.bare,⟨?_,?_,?_,?_,I.base.gL,I.base.gD,I.base.gM⟩,?_,⟨ea,a0,B,rfl,fw,?_⟩,hE⟩
 ·exact λb o e n1 n2 _=>kept b o (I.base.keep b o e n1 n2 (qU b)) (qS b o e n2) (.inr ⟨o,e⟩)
 ·intro b o e n1 n2 _;obtain⟨Hm,e1⟩:=I.base.slot b o e n1 n2 (qU b);obtain⟨jV,e2⟩:=sl b (xf b n2) _ e1;exact⟨jV,e2⟩
 ·exact λb o e n1 _=>I.base.free b o e n1 (qU b)
 ·intro b o e _;obtain⟨o1,e1⟩:=I.base.there b o e (qU b);by_cases hb:b∈ft X.stack
  ·obtain⟨jV,e2⟩:=sl b hb _ e1;exact⟨_,e2⟩
  ·exact⟨o1,kept b o1 e1 hb (.inr ⟨o,e⟩)⟩
 ·intro a o e;exact (I.br a o e).P2 (λb u hb q=>by
   have iE:∃v,H b=some v:=by
    rcases hb with rfl|hb
    ·exact⟨o,e⟩
    ·exact⟨_,hb⟩
   obtain⟨v,hv⟩:=iE;exact kept b u q (mO b v hv) (.inl (by rw [hv];simp))) (λb hb=>hb) (λb xs hb=>hb)
 ·intro b o e n q;rcases q with q|⟨o0,q⟩
  ·obtain⟨v,hv⟩:=mG.mp q;obtain⟨o1,e1⟩:=(I.br b v hv).get;have z:=pQ b o1 e1 (mO b v hv) (.inl (by rw[hv];simp));have z':=fw.1 b o1 z;have:o=o1:=by
    have e':mr.get? b=some o:=e;rw[z'] at e';exact(aB e').symm
   subst this;exact z
  ·obtain⟨o1,e1⟩:=I.base.there b o0 q (qU b);have z:=pQ b o1 e1 (qS b o0 q n) (.inr ⟨o0,q⟩);have z':=fw.1 b o1 z;have:o=o1:=by
    have e':mr.get? b=some o:=e;rw[z'] at e';exact(aB e').symm
   subst this;exact z
theorem Wu{h0:Heap}{Ex:Value->Shared->Prop}(I:Inv X pins Z H s)(fl:zA H h0 X.stack e C s.heap)(Js:∀b o,X.cR.heap.get? b=some o->∃o',h0.get? b=some o')(ei:X.stack=X.env::X.outer)(hex:X.ex=[])(hf:X.env.frame=some X.env.locals)(hE:E (.ref C) none H):wpAny (model X.prog X.w) X.A (leaving X.env e) (λ_ mP=>gj X.prog X.w X.outer X.iA X.cR E e mP) Ex s:=by
 obtain⟨ea,a0,B,rfl,fw,hB⟩:=fl;have Zl:=fw;rw[ei] at fw;refine wpAny_leaves_onW (by rw[I.ok.frames,ei]) hf fw λmr uJ us=>?_;refine zC I ei hex hf (λb o e n q=>hB b o e n (q.imp id λ⟨o0,q⟩=>Js b o0 q)) (λb hb o e=>?_) uJ hE;obtain⟨o1,e1,nf⟩:=Y7 I hb;rw[e] at e1;cases e1;exact us b o e nf
theorem Vb{h':Heap}{vs:List Value}{Ex:Value->Shared->Prop}(I:Inv X pins Z H s)(hx:Heap.MadeExcOf s.heap h' ea (.ref C) vs)(ei:X.stack=X.env::X.outer)(hex:X.ex=[])(hf:X.env.frame=some X.env.locals)(hE:E (.ref C) none H):wpAny (model X.prog X.w) X.A (leaving X.env (.ref ea)) (λ_ mP=>gj X.prog X.w X.outer X.iA X.cR E (.ref ea) mP) Ex { s with heap:=h' }:=by
 have pW:=I.stack;rw[ei] at pW;have Iw:∀env∈(X.env::X.outer),∀b,env.frame=some b->b∈ft X.stack:=λenv he b hb=>by rw[ei];exact jk.mpr ⟨env,he,hb⟩
 refine wpAny_leaves_madeW (s:={ s with heap:=h' }) (base:=PySem.W.hideAll s.heap (ft X.stack)) (h:=s.heap) (by rw[I.ok.frames,ei]) hf (λb o q=>GV _ q) (PySem.W.funFrames_hide pW Iw) hx λmr t fw _ _ us=>?_;refine(show gj X.prog X.w X.outer X.iA X.cR E (.ref ea) { s with heap:=mr } from zC I ei hex hf (λb o e n _=>AB _ e n) (λb hb o e=>?_) fw hE);obtain⟨o1,e1,nf⟩:=Y7 I hb;rw[e] at e1;cases e1;exact us b o (hx.keeps b o e) nf
theorem Ym{l:List Env}{h0 h h1:Heap}{Pg:Program}(u:Un (ft l) [] H H' h0 h)(ok:fA Pg w H' h)(hB:∀b o,h.get? b=some o->b∉ft l->(H' b≠none\/∃o0,h0.get? b=some o0)->B.get? b=some o)(st:B.StaysIn h1)(us:h.UpToSlots h1)(Bz:∀b∈ft l,H' b=none/\∃o,h.get? b=some o/\∀vs,o.data≠.fields vs):Un (ft l) [] H H' h0 h1/\fA Pg w H' h1/\∀b o,h1.get? b=some o->b∉ft l->(H' b≠none\/∃o0,h0.get? b=some o0)->B.get? b=some o:=by
 have mO:∀b u,H' b=some u->b∉ft l:=λb u e z=>by rw[(Bz b z).1] at e;cases e
 have kept:∀b o,h.get? b=some o->b∉ft l->(H' b≠none\/∃o0,h0.get? b=some o0)->h1.get? b=some o:=λb o e n q=>st b o (hB b o e n q);have BQ:∀b∈ft l,∀o,h.get? b=some o->∃sl,h1.get? b=some { o with slots:=sl }:=λb hb o e=>by
  obtain⟨_,o1,e1,nf⟩:=Bz b hb;rw[e] at e1;cases e1;exact us b o e nf
 refine⟨⟨?_,?_,u.free,?_,u.gL,u.gD,u.gM⟩,?_,?_⟩
 ·exact λb o e n1 n2 n3=>kept b o (u.keep b o e n1 n2 n3) n2 (.inr ⟨o,e⟩)
 ·intro b o e n1 n2 n3;obtain⟨Hm,e1⟩:=u.slot b o e n1 n2 n3;obtain⟨jV,e2⟩:=BQ b n2 _ e1;exact⟨jV,e2⟩
 ·intro b o e n;obtain⟨o1,e1⟩:=u.there b o e n;by_cases hb:b∈ft l
  ·obtain⟨jV,e2⟩:=BQ b hb _ e1;exact⟨_,e2⟩
  ·exact⟨o1,kept b o1 e1 hb (.inr ⟨o,e⟩)⟩
 ·intro a o e;exact (ok a o e).P2 (λb u hb q=>by
   have iE:∃v,H' b=some v:=by
    rcases hb with rfl|hb
    ·exact⟨o,e⟩
    ·exact⟨_,hb⟩
   obtain⟨v,hv⟩:=iE;exact kept b u q (mO b v hv) (.inl (by rw [hv];simp))) (λb hb=>hb) (λb xs hb=>hb)
 ·intro b o e n q;have:∃o1,h.get? b=some o1:=by
   rcases q with q|⟨o0,q⟩
   ·obtain⟨v,hv⟩:=mG.mp q;exact(ok b v hv).get
   ·exact u.there b o0 q (by simp)
  obtain⟨o1,e1⟩:=this;have z:=hB b o1 e1 n q;rw[st b o1 z] at e;cases e;exact z
structure Lies(X:Cx)(H H':Hp)(s:Shared)(B:Heap)(ea C:Addr)(a0:Value)(s':Shared):Prop where
 os:s'.os=s.os
 bare:AllBare s'.gens
 un:Un (ft X.stack) [] H H' s.heap s'.heap
 br:fA X.prog X.w H' s'.heap
 pQ:∀b o,s'.heap.get? b=some o->b∉ft X.stack->(H' b≠none\/∃o0,s.heap.get? b=some o0)->B.get? b=some o
theorem Lies.inv(I:Inv X pins Z H s)(l:Lies X H H' s B ea C a0 s'):Inv X pins Z H' s':=I.zB (ch:=[]) l.os l.un l.br l.bare (by simp)
theorem leave_held{Ex:Value->Shared->Prop}(I:Inv X pins Z H s)(l:Lies X H H' s B ea C a0 s')(hh:Heap.HeldW B X.stack ea (.ref C) a0 X.env.locals s'.heap)(ei:X.stack=X.env::X.outer)(hex:X.ex=[])(hf:X.env.frame=some X.env.locals)(hE:E (.ref C) none H'):wpAny (model X.prog X.w) X.A (leaving X.env (.ref ea)) (λ_ mP=>gj X.prog X.w X.outer X.iA X.cR E (.ref ea) mP) Ex s':=by
 have J:=l.inv I;have xw:=hh;rw[ei] at xw;unfold leaving;refine aa (wpAny_noteFrame_againW hf xw.2.2.2 ?_);refine wpAny_landsW xw λmr fl us=>?_;obtain⟨k1,k2,⟨_,_,k3⟩,k4⟩:=fl;refine zC J ei hex hf (λb o e n q=>l.pQ b o e n (q.imp id λ⟨o0,q⟩=>I.base.there b o0 q (by rw[hex];simp))) (λb hb o e=>?_) ⟨k1,k2,k3,k4⟩ hE;obtain⟨o1,e1,nf⟩:=Y7 J hb;rw[e] at e1;cases e1;exact us b o e nf
def vo(X:Cx)(Ξ:XK):Prop:=∀(pins:List (Addr×Obj)) (Z:St) (H:Hp) (s:Shared) (h':Heap) (ea C:Addr) (vs:List Value),Inv X pins Z H s->Heap.MadeExcOf s.heap h' ea (.ref C) vs->Ξ (.ref C) none H->X.xe (.ref ea) { s with heap:=h' }
def tE(X:Cx)(Ξ:XK):Prop:=∀(pins:List (Addr×Obj)) (Z:St) (H H':Hp) (s s':Shared) (B:Heap) (ea C:Addr) (a0:Value),Inv X pins Z H s->Lies X H H' s B ea C a0 s'->Heap.HeldW B X.stack ea (.ref C) a0 X.env.locals s'.heap->Ξ (.ref C) none H'->X.xe (.ref ea) s'
def Mb(C:Addr)(Ξ:XK)(t:TA):TS:=λ_ Z H=>t Z H λvs H1=>vs.length<=sizeLine/\Ξ (.ref C) none H1
theorem XD{x:Str}{B newId fS:String}{bm:List Value}{np dy:Pos}{iX:Expr}{rest:List Expr}{t:TA}{Ξ:XK}(hc:X.calm=true)(O:OwnCls x C bm newId X.mg X.base)(FB:ExcBaseFacts B newId fS bm)(hg:Gl X x)(ha:PA X (iX::rest) t)(hr:vo X Ξ)(he:starEach (iX::rest) X.env=(false,eval iX X.env)::starEach rest X.env)(dR:(backTo dy (starEach rest X.env)).any (·.1)=false)(hd:(x==("__debug__":Str))=false) :
  PS X (.Raise (some (.Call (.Name x np) (iX::rest) [] dy)) none pos) (Mb C Ξ t):=by
 intro pins s Z H D I h;obtain⟨tl,N,nm,q,bs,hdct,sn,sub,ab,col,dd,k0,k1,k2,k3,k5,mN,hC,hN,uC,T⟩:=O.obj;refine wpAny_Raise_call_subT (C:=C) (nm:=nm) (q:=q) (N:=N) (bs:=bs) (bm:=tl) (hdct:=hdct) (sn:=sn) (sub:=sub) (ab:=ab) (col:=col) (dd:=dd) (k0:=k0) (k1:=k1) (k2:=k2) (k3:=k3) (k5:=k5)
  FB (mN:=mN) (T.hasType FB.hasBase) (I.ok.hd hc) (by rw[he];show(false||(backTo dy (starEach rest X.env)).any (·.1))=false;rw[dR];rfl) uC (L7 I hg O.bound ⟨rfl,?_⟩ hd)
 have h':=ha dy pins s Z H _ I h;rw[he] at h' ⊢;refine fK (aV h' (λvs eJ fT=>?_) λ_ _ y=>y);obtain⟨ws,H1,I1,rv,hz,hE⟩:=fT;exact⟨rfl,by rw[<- rv.length];exact hz,I1.bk _ _ hC,hN.keeps I1.bk,T.keeps I1.bk,λh2 ea hm=>hr pins Z H1 eJ h2 ea C vs I1 hm hE⟩
def R9(X:Cx)(pins:List (Addr×Obj))(xe:Value->Shared->Prop):Cx:={ X with pn:=X.pn++pins,xe:=xe }
def A9(X:Cx)(ea:Addr):Cx:={ X with A:=X.A.mark (some (.ref ea)),calm:=false,xe:=λ_ _=>False }
theorem Inv.Sn{xe:Value->Shared->Prop}(I:Inv X pins Z H s):Inv (R9 X pins xe) [] Z H s :=
 ⟨⟨I.ok.mod,I.ok.kind,I.ok.glob,I.ok.blt,I.ok.above,I.ok.inj,I.ok.has,I.ok.fN,I.ok.hd,I.ok.frames,I.ok.ow,I.ok.sy,I.ok.bs,I.ok.lV,I.ok.jq,I.ok.jQ,I.ok.F9,I.ok.mw⟩,I.os,I.bare,I.base,I.loc,I.cell,I.free,I.dJ,
  λp hp=>I.pin p (by simpa [R9] using hp),I.br,I.len⟩
theorem Inv.X8{xe:Value->Shared->Prop}{hZ:List (Addr×Obj)}(I:Inv (R9 X pins xe) hZ Z H s):Inv X pins Z H s :=
 ⟨⟨I.ok.mod,I.ok.kind,I.ok.glob,I.ok.blt,I.ok.above,I.ok.inj,I.ok.has,I.ok.fN,I.ok.hd,I.ok.frames,I.ok.ow,I.ok.sy,I.ok.bs,I.ok.lV,I.ok.jq,I.ok.jQ,I.ok.F9,I.ok.mw⟩,I.os,I.bare,I.base,I.loc,I.cell,I.free,I.dJ,
  λp hp=>I.pin p (cM _ hp),I.br,I.len⟩
theorem Inv.FF(I:Inv X pins Z H s):Inv (A9 X ea) pins Z H s :=
 ⟨⟨I.ok.mod,I.ok.kind,I.ok.glob,I.ok.blt,I.ok.above,I.ok.inj,I.ok.has,I.ok.fN,λz=>(by cases z),I.ok.frames,I.ok.ow,I.ok.sy,I.ok.bs,I.ok.lV,I.ok.jq,I.ok.jQ,I.ok.F9,I.ok.mw⟩,I.os,I.bare,I.base,I.loc,I.cell,I.free,I.dJ,I.pin,I.br,I.len⟩
theorem Inv.U8(J:X.Ok)(I:Inv (A9 X ea) pins Z H s):Inv X pins Z H s :=
 ⟨J,I.os,I.bare,I.base,I.loc,I.cell,I.free,I.dJ,I.pin,I.br,I.len⟩
theorem SP.X8{xe:Value->Shared->Prop}{D:Ends}{f:Flow}(h:SP (R9 X pins xe) [] D f s):SP X pins D f s:=by
 cases f with
 |next=>obtain⟨a,b,I,q⟩:=h;exact⟨a,b,I.X8,q⟩
 |brk=>obtain⟨a,b,I,q⟩:=h;exact⟨a,b,I.X8,q⟩
 |cont=>obtain⟨a,b,I,q⟩:=h;exact⟨a,b,I.X8,q⟩
 |ret u=>obtain⟨v,a,b,I,r,q⟩:=h;exact⟨v,a,b,I.X8,r,q⟩
theorem SP.U8{ea:Addr}{D:Ends}{f:Flow}(J:X.Ok)(h:SP (A9 X ea) pins D f s):SP X pins D f s:=by
 cases f with
 |next=>obtain⟨a,b,I,q⟩:=h;exact⟨a,b,I.U8 J,q⟩
 |brk=>obtain⟨a,b,I,q⟩:=h;exact⟨a,b,I.U8 J,q⟩
 |cont=>obtain⟨a,b,I,q⟩:=h;exact⟨a,b,I.U8 J,q⟩
 |ret u=>obtain⟨v,a,b,I,r,q⟩:=h;exact⟨v,a,b,I.U8 J,r,q⟩
def Z5(X:Cx)(D:Ends)(C:Addr)(H:Hp):List ExceptHandler->Prop
 |.ExceptHandler (some (.Name x _)) none (sO::nA) _::rest=>Gl X x/\(x==("__debug__":Str))=false/\∃C' b,X.mg x=some (.ref C')/\PySem.W.exmOne X.K (.ref C) (.ref C')=some b /\
   (if b=true then ∃t:TS,(∀ea,ij (A9 X ea) (sO::nA) t)/\t D (List.replicate X.N.length none) H else Z5 X D C H rest)
 |[]=>∃Ξ:XK,tE X Ξ/\Ξ (.ref C) none H
 |_=>False
end
section
variable{pins:List (Addr×Obj)}{e:Value}{D:Ends}
def qu(X:Cx)(pins:List (Addr×Obj))(D:Ends)(hs:List ExceptHandler):Value->Shared->Prop:=λe bx =>
 wpAny (model X.prog X.w) X.A (noteFrame e X.env) (λ_ eJ=>wpAny (model X.prog X.w) X.A (setFlight e none) (λ_ cY=>wpAny (model X.prog X.w) X.A (handleBy e X.env hs) (SP X pins D) X.xe cY) X.xe eJ) X.xe bx
theorem Lies.step{h1:Heap}(I:Inv X pins Z H s)(l:Lies X H H' s B ea C a0 s')(st:B.StaysIn h1)(us:s'.heap.UpToSlots h1):Lies X H H' s B ea C a0 { s' with heap:=h1 }:=by
 have J:=l.inv I;obtain⟨u,ok,ib⟩:=Ym l.un l.br l.pQ st us λb hb=>⟨J.vJ b hb,Y7 J hb⟩
 exact⟨l.os,l.bare,u,ok,ib⟩
theorem VR{l:List Env}{L:Addr}{cls:Value}{A:Around}{M:Model}{E:Value->Shared->Prop}{Q:Unit->Shared->Prop}(fw:Heap.FlyingW B l ea cls a0 s.heap)(h:∀h',Heap.HeldW B l ea cls a0 L h'->(∀b o,s.heap.get? b=some o->(∀vs,o.data≠.fields vs)->h'.get? b=some o)->Q () { s with heap:=h' }):wpAny M A (setFlight (.ref ea) (some L)) Q E s:=by
 obtain⟨f1,f2,f3,oe,vs,T,oT,ts,he,mY,hd,h1,Bs,BG,hT,uD,h3⟩:=fw;have rC:3<ts.size:=(Array.getElem?_eq_some_iff.mp h3).1;have other:∀b,b≠T->(s.heap.update T (Obj.mapFields (·.setIfInBounds 3 ((some L).elim Value.none λf=>rawInt f)))).get? b=s.heap.get? b :=
  λb hb=>bR _ _ (bg hb)
 have jr:∀b o,s.heap.get? b=some o->(∀vs,o.data≠.fields vs)->b≠T:=λb o hb rG q=>by
  rw[q,hT] at hb;injection hb with hb;subst hb;exact rG ts uD
 unfold setFlight;refine aa (jE he hd h1 ?_);rw[aK (show(Value.ref T != Value.none)=true from by simp)];refine dg hT uD rC (h _ ⟨λb o xD=>(other b λq=>by rw [q,Bs] at xD;cases xD).trans (f1 b o xD),f2,
  f3.of_keeps λb o hb rG=>⟨o,(other b (jr b o hb rG)).trans hb,rfl⟩,?_⟩ λb o hb rG=>(other b (jr b o hb rG)).trans hb)
 exact⟨oe,vs,T,_,_,(other ea (bg BG)).trans he,mY,hd,h1,Bs,BG,aW _ hT (cQ (bo uD _)),bo uD _,by simp[rC]⟩
theorem DU{B:Heap}{ea C:Addr}{a0:Value}(hf:X.env.frame=some X.env.locals):∀(hs:List ExceptHandler) (s':Shared),Inv X pins Z H s->Lies X H H' s B ea C a0 s'->Heap.FlyingW B X.stack ea (.ref C) a0 s'.heap->Z5 X D C H' hs ->
  wpAny (model X.prog X.w) X.A (handleBy (.ref ea) X.env hs) (SP X pins D) X.xe s'
 |[],s',I,l,fw,t=>by
  obtain⟨Ξ,hh,hE⟩:=t;refine wpAny_handleBy_nil ?_;unfold PySem.passOn;obtain⟨f1,f2,f3,oe,vs,T,oT,ts,he,mY,hd,h1,_⟩:=id fw;refine aa (jE he hd h1 ?_);rw[aD (by simp),hf];refine aa (VR fw λh2 held k=>wpAny_throw ?_);have l2:=l.step I held.1 (λb o hb hn=>⟨o.slots,k b o hb hn⟩);exact hh pins Z H H' s _ B ea C a0 I l2 held hE
 |.ExceptHandler none _ _ _::_,_,_,_,_,t=>t.elim
 |.ExceptHandler (some e) nm bd pos::rest,s',I,l,fw,t=>by
  cases e
  case Name x np =>
   cases nm with
   |some y=>exact t.elim
   |none =>
    cases bd with
    |nil=>exact t.elim
    |cons sO nA =>
     obtain⟨hg,gq,C',b,hm,hx,q⟩:=t;have J:=l.inv I;have JM:Inv (A9 X ea) pins Z H' s':=J.FF;have LT:PySem.W.Looks (model X.prog X.w) s'.heap (typeOf (.ref ea)) (.ref C):=λA Q E s2 k q=>by
      obtain⟨ob,ho,hc⟩:=fw.there;exact wpAny_typeOf_ref (k _ _ ho) (by rw[hc];exact q)
     refine wpAny_handleBy_cons (codeAny_handlers_test ?_) (by intro z;cases z);refine L7 (X:=A9 X ea) JM hg hm ?_ gq;refine(PySem.W.exm_one (M:=model X.prog X.w) J.fE LT hx).here ?_;cases b with
     |false =>
      simp only[Bool.false_eq_true,if_false] at q;exact DU hf rest s' I l fw q
     |true =>
      simp only[if_true] at q;obtain⟨t,ht,hq⟩:=q;refine codeAny_handlers_suite ?_;refine wpAny_setFlight_noneW fw.1 fw.2.2.1 fw.2.2.2.at λh2 k1 k2 k3 k4=>?_;have l2:=l.step I k1 (λb o hb hn=>⟨o.slots,k4 b o hb hn⟩);have J2:=l2.inv I;have J3:Inv (A9 X ea) pins (List.replicate X.N.length none) H' { s' with heap:=h2 }:=(J2.weak (by rw [hU,J2.len]) λi v z=>by
       rw [cW] at z;split at z <;> cases z).FF
      refine aV (ht ea pins _ _ H' D J3 hq) (λf s2 hf=>hf.U8 I.ok) λ_ _ z=>z.elim
  all_goals exact t.elim
theorem Xo{hs:List ExceptHandler}{Ξ:XK}(ei:X.stack=X.env::X.outer)(hf:X.env.frame=some X.env.locals)(hT:∀C H',Ξ (.ref C) none H'->Z5 X D C H' hs) :
  Passes (gj X.prog X.w) (R9 X pins (qu X pins D hs)) Ξ:=by
 intro hZ Z H s e s' I0 h;have I:Inv X pins Z H s:=I0.X8;obtain⟨C,H',ho,hb,hu,br,⟨ea,a0,B,rfl,fw,hB⟩,hE⟩:=h;have l:Lies X H H' s B ea C a0 s':=⟨ho,hb,hu,br,hB⟩
 have fw:Heap.FlyingW B X.stack ea (.ref C) a0 s'.heap:=fw;show qu X pins D hs (.ref ea) s';unfold qu;have uJ:=fw;rw[ei] at uJ;refine wpAny_looks_onW (by rw[I.ok.frames,ei]) hf uJ λh1 held us=>?_;have l1:=l.step I held.1 us;refine wpAny_landsW held λh2 fl Hd=>?_;have l2:=l1.step I fl.1 Hd;rw[<- ei] at fl;exact DU hf hs _ I l2 fl (hT C H' hE)
theorem Ld{hs:List ExceptHandler}{h₀:ExceptHandler}{body:List Stmt}{t:Ends->TS}{Ξ:Ends->XK}(ei:X.stack=X.env::X.outer)(hf:X.env.frame=some X.env.locals)(hb:∀pins D,(∀C H',Ξ D (.ref C) none H'->Z5 X D C H' (h₀::hs))->ij (R9 X pins (qu X pins D (h₀::hs))) body (t D)) :
  PS X (.Try body (h₀::hs) [] [] pos) (λD Z H=>(∀C H',Ξ D (.ref C) none H'->Z5 X D C H' (h₀::hs))/\t D D Z H):=by
 intro pins s Z H D I ⟨hT,h⟩;refine wpAny_Try_except (aV (hb pins D hT [] s Z H D I.Sn h) (λf s1 q=>?_) λe s1 q=>q);have q:=q.X8;cases f with
 |next =>
  obtain⟨bL,H',I',q⟩:=q;exact bS (jb ⟨bL,H',I',q⟩) λ_ _ z=>z
 |brk=>exact q
 |cont=>exact q
 |ret u=>exact q
end
def Ay(K:PySem.W.Frag)(a:Addr):It :=
 ⟨λi H=>∃xs x,eT K H a xs/\xs[i]?=some x,λi H v H'=>∃p x,H p=none/\v=.ref p/\(∀xs,eT K H a xs->xs[i]?=some x)/\H'=upd H p (.tup [.int i,x]),λi H=>∃xs,eT K H a xs/\xs.length<=i⟩
theorem UO{P:Program}{K:PySem.W.Frag}{elts:List Expr}{x1:Nat}{tp:Pos}(a e it:Addr)(BA:e≠it):Turn P w K (.Tuple elts x1 tp) (Ay K a) [e,it] e (λi h=>(∃old,IsEnum h e it i old)/\h.IsListIter it a i) where
 mem:=by simp
 obj:=λi h st b hb=>by
  obtain⟨⟨old,h1⟩,o,h2,c,d⟩:=st;rcases aw.mp hb with z|z
  ·subst z;exact ⟨_,h1,λv z=>by
    have z':Data.fields _=Data.cell v:=z;cases z'⟩
  ·have z:b=it:=by simpa using z
   subst z;exact⟨o,h2,λv z=>by rw[d] at z;cases z⟩
 keep:=λi h h' st k=>by
  obtain⟨⟨old,h1⟩,h2⟩:=st;exact⟨⟨old,k e (by simp) _ h1⟩,h2.at λo x=>k it (by simp) o x⟩
 item:=by
  intro X hP hw hK hc i pins s Z H E I hf st hg;subst hP hw hK;obtain⟨⟨old,h1⟩,h2⟩:=st;obtain⟨xs,x,hq,hx⟩:=hg;obtain⟨aL,rv,p,hz⟩:=I.list hq;obtain⟨u,hu,ru⟩:=rv.get hx;obtain⟨e0,e1,e2,e3,e4,e5⟩:=hf e (by simp);obtain⟨f0,f1,f2,f3,f4,f5⟩:=hf it (by simp);refine wpAny_pyNext_enum_item h1 h2 p.isList (x:=u) (by simpa using hu) BA λh' nJ xt rB Bk xr=>?_;refine⟨_,rfl,wpAny_letOwnedTupleGo_enum nJ λsi IE gC=>?_⟩;have gC:Heap.SameBut e h' si:=gC;have elt:e<s.heap.objs.size:=aq h1;have kp:∀b o,b≠e->b≠it->s.heap.get? b=some o->si.get? b=some o:=λb o b1 b2 q=>(gC.2 b b1).trans (xr b o b1 b2 q);have hn:H s.heap.objs.size=none:=I.br.fresh (aj _);have ot:si.get? s.heap.objs.size=some { cls:=.type "tuple",data:=.seq #[.int i s.toks,u] }:=(gC.2 _ (bp elt)).trans rB;have ne:∀b u',H b=some u'->b≠e/\b≠it:=λb u' q=>And.intro (λ(z:b=e)=>by rw[z,e0] at q;cases q) (λ(z:b=it)=>by rw[z,f0] at q;cases q);have br:fA X.prog X.w (upd H s.heap.objs.size (.tup [.int i,x])) si:=λb o q=>by
   by_cases hb:b=s.heap.objs.size
   ·subst hb;rw[f9] at q;cases q;exact⟨by show 2<=sizeLine;decide,[.int i s.toks,u],.cons ⟨_,rfl⟩ (.cons ru .nil),_,ot,rfl,⟨_,rfl⟩,rfl⟩
   ·rw[a7 hb] at q;refine(I.br b o q).P2 (λc v hc q'=>?_) (λc q'=>by rw[a7 (d4 q' hn)];exact q') λc ys q'=>by rw[a7 (d4 q' hn)];exact q'
    rcases hc with z|z
    ·subst z;exact kp _ _ (ne _ _ q).1 (ne _ _ q).2 q'
    ·exact kp _ _ (ne _ _ z).1 (ne _ _ z).2 q'
  have I2:Inv X pins Z (upd H s.heap.objs.size (.tup [.int i,x])) { s with heap:=si,toks:=s.toks+1 }:=by
   refine I.step (g':=s.gens) (d':=s.drawn) (t':=s.toks+1) (ch:=[e,it]) (λb hb=>?_) (λb o _ _ hb q _=>kp b o (λz=>hb (by simp[z])) (λz=>hb (by simp[z])) q) (λb o _ _ hb q _=>⟨o.slots,kp b o (λz=>hb (by simp[z])) (λz=>hb (by simp[z])) q⟩)
    (λb o _ q n=>by rw[a7 (aE (aq q))];exact n) (λb o hb q=>⟨o,kp b o (λz=>hb (by simp[z])) (λz=>hb (by simp[z])) q⟩)
    (λb ys q=>by rw[a7 (d4 q hn)];exact q) (λb o' ys q=>by rw[a7 (d4 q hn)];exact q) (λb ps q=>⟨#[],by rw[a7 (d4 q hn),q];simp⟩) (λm hm=>?_) br I.bare
   ·rcases aw.mp hb with z|z
    ·subst z;exact⟨e3,e1,e4,e5⟩
    ·have z:b=it:=by simpa using z
     subst z;exact⟨f3,f1,f4,f5⟩
   ·obtain⟨o,es,ep,ho,r⟩:=hm;exact⟨o,es,ep,kp _ o (bg e1) (bg f1) ho,r⟩
  refine⟨.ref s.heap.objs.size,_,I2,rfl,⟨s.heap.objs.size,x,hn,rfl,λys hy=>by rw[I.zb hy hq];exact hx,rfl⟩,⟨⟨u,by simpa using IE⟩,xt.at λo y=>(gC.2 it BA.symm).trans y⟩,λb hb=>?_⟩;have iE:b<s.heap.objs.size:=by
   rcases aw.mp hb with z|z
   ·subst z;exact elt
   ·have z:b=it:=by simpa using z
    subst z;obtain⟨o,h2,_⟩:=h2;exact aq h2
  rw[a7 (aE iE)];exact(hf b hb).1
 done:=by
  intro X hP hw hK hc i pins s Z H E I hf st hg;subst hP hw hK;obtain⟨⟨old,h1⟩,h2⟩:=st;obtain⟨xs,hq,hx⟩:=hg;obtain⟨aL,rv,p,hz⟩:=I.list hq;obtain⟨f0,f1,f2,f3,f4,f5⟩:=hf it (by simp);have hl:=rv.length;exact wpAny_pyNext_enum_end (I.ok.hd hc) h1 h2 p.isList (by simp;omega) λh' eb=>⟨rfl,I.turned (t':=s.toks) (λb o hb e=>eb b o hb e) f0 f1 f3 f4 f5⟩
 self:=λ_ _ _ _ _ st h=>by
  obtain⟨⟨old,h1⟩,h2⟩:=st;exact wpAny_pyIter_enum h1 h
theorem Nv{l:Expr}{tp:Pos}{elts:List Expr}{x1:Nat}(hg:Gl X "enumerate")(hm:X.mg "enumerate"=none)(ha:PA X [l] ta)(hs:starEach [l] X.env=[(false,eval l X.env)]) :
  PI X (.Tuple elts x1 tp) (.Call (.Name "enumerate" p) [l] [] pos) (λZ H R=>ta Z H λvs H1=>∃a,vs=[.ref a]/\(∃xs,eT X.K H1 a xs)/\R (Ay X.K a) H1):=by
 intro pins s Z H R I h;refine Call_ (K6 I hg hm PyProof.Rows.boot_enumerate (bB (bS (ha pos pins s Z H _ I h) λus s1 aS=>?_) hs rfl));obtain⟨vs,H1,I1,r1,q1⟩:=aS;obtain⟨a,e,⟨xs,hq⟩,q⟩:=q1;subst e;cases r1 with
 |cons r rr =>
  cases rr;cases r;obtain⟨aL,rv,p,hz⟩:=I1.list hq;refine call_enumerate_list p.isList λh' he hit hsz hk=>wpAny_pyIter_enum he ?_;refine⟨s1.heap.objs.size+1,[s1.heap.objs.size+1,s1.heap.objs.size],_,_,H1,rfl,I1.kept (t':=s1.toks) hk,UO a _ _ (by simp),⟨⟨_,he⟩,hit⟩,λb hb=>?_,q⟩;have iE:s1.heap.objs.size<=b:=by
   rcases aw.mp hb with z|z
   ·rw[z];exact fe _
   ·have z:b=s1.heap.objs.size:=by simpa using z
    rw[z];exact aj _
  exact I1.Y8 iE (I1.br.fresh iE)
theorem RE{e:Expr}{t:TE}(he:PE X e t):PE X (.FormattedValue e (-1) none pos) (λZ H Q=>t Z H λx H1=>(∃i,x=.int i/\i.natAbs.log2<1920/\Q (.str (toString i)) H1)\/∃y,x=.str y/\y.length<=sizeLine/\Q (.str y) H1):=by
 intro pins s Z H Q I h;refine wpAny_FormattedValue_plain (bS (he pins s Z H _ I h) λv s1 aS=>?_);obtain⟨x,H1,I1,r1,q1⟩:=aS;rcases q1 with⟨i,rfl,hd,q⟩|⟨y,rfl,hy,q⟩
 ·obtain⟨t,rfl⟩:=r1;exact wpAny_formatField_int hd ⟨.str _,H1,I1.tok _,⟨_,rfl⟩,q⟩
 ·obtain⟨t,rfl⟩:=r1;exact wpAny_formatField_str ⟨.str _,H1,I1,⟨_,rfl⟩,q⟩ ⟨.str _,H1,I1.tok _,⟨_,rfl⟩,q⟩ hy
inductive qv(X:Cx):List Expr->List TE->Prop
 |nil:qv X [] []
 |cons {e:Expr} {t:TE} {es:List Expr} {ts:List TE} (h:PE X e t) (r:qv X es ts):qv X (e::es) (t::ts)
def uZ:List TE->St->Hp->Str->(Str->Hp->Prop)->Prop
 |[],_,H,acc,Q=>Q acc H
 |t::ts,Z,H,acc,Q=>t Z H λx H1=>∃y,x=.str y/\(acc++y).length<=sizeLine/\uZ ts Z H1 (acc++y) Q
theorem GH{pins:List (Addr×Obj)}{Z:St}{Q:Str->Hp->Prop}:∀{es:List Expr} {ts:List TE},qv X es ts->∀{s:Shared} {H:Hp} {acc:Str},Inv X pins Z H s->uZ ts Z H acc Q ->
  Joins (model X.prog X.w) X.A X.xe (evalEach es X.env) acc (λout s1=>∃H1,Inv X pins Z H1 s1/\Q out H1) s
 |_,_,.nil,s,H,acc,I,h=>⟨H,I,h⟩
 |_,_,.cons he r,s,H,acc,I,h=>by
  rw[arm_evalEach_cons];refine bS (he pins s Z H _ I h) λv s1 aS=>?_;obtain⟨x,H1,I1,r1,y,ey,hy,q1⟩:=aS;subst ey;obtain⟨t,rfl⟩:=r1;exact⟨y,t,rfl,hy,GH r I1 q1⟩
theorem El{M:Model}{A:Around}{E:Value->Shared->Prop}{Q Q':Str->Shared->Prop}(hq:∀x s,Q x s->Q' x s):∀{l:List (Sem Value)} {acc:Str} {s:Shared},Joins M A E l acc Q s->Joins M A E l acc Q' s
 |[],acc,s,h=>hq _ _ h
 |x::r,acc,s,h=>bS h λv s1 ⟨y,t,e,hz,h1⟩=>⟨y,t,e,hz,El hq h1⟩
theorem Np{kn km:Expr}{rest:List Expr}{ts:List TE}(h:qv X (kn::km::rest) ts):PE X (.JoinedStr (kn::km::rest) pos) (λZ H Q=>uZ ts Z H Str.empty λout H1=>out.length<=sizeLine/\Q (.str out) H1):=by
 intro pins s Z H Q I hw;refine wpAny_JoinedStr (El (λx s1 ⟨H1,I1,hl,q⟩=>⟨hl,.str x,H1,I1.tok _,⟨_,rfl⟩,q⟩) (GH h I hw))
theorem Va{lo:Int}{acc:Array Value}{n:Nat}(h:ItemsOf (λi v=>∃t,v=.int (lo+i*1) t) acc n):Vals ((List.range n).map λ(k:Nat)=>V.int (lo+k)) acc.toList:=by
 have hl:acc.toList.length=n:=by
  have:=h.1;simpa using this
 have go:∀(m:Nat) (l:List Value),l.length<=n->m+l.length=n->(∀i v,l[i]?=some v->∃t,v=Value.int (lo+((m+i:Nat):Int)) t)->Vals ((List.range' m l.length).map λ(k:Nat)=>V.int (lo+k)) l:=by
  intro m l
  induction l generalizing m with
  |nil=>intro _ _ _;exact .nil
  |cons x r ih =>
   intro h1 h2 h3;simp only[List.length_cons,List.range'_succ,List.map_cons];refine .cons ?_ (ih (m+1) (by simp at h1;omega) (by simp at h2;omega) λi v hv=>?_)
   ·obtain⟨t,e⟩:=h3 0 x rfl;exact⟨t,by rw[e];simp⟩
   ·obtain⟨t,e⟩:=h3 (i+1) v (by simpa using hv);exact⟨t,by rw[e,show m+(i+1)=m+1+i by omega]⟩
 have:=go 0 acc.toList (by omega) (by omega) λi v hv=>?_
 ·rw[hl,<- List.range_eq_range'] at this;exact this
 ·have hi:i<n:=by
   have:=(ax.mp hv).1;omega
  have:acc[i]?=some v:=by rw[<- eQ];exact hv
  obtain⟨t,e⟩:=h.2 i v this;refine⟨t,?_⟩;rw[e];simp
theorem Ff(hc:X.calm=true):j5 X (.type "list") (λxs H Q=>∃a lo hi,xs=[.ref a]/\H a=some (.kO lo hi)/\(-(2 ^ 62)<=lo/\lo<2 ^ 62/\-(2 ^ 62)<=hi/\hi<2 ^ 62/\hi-lo<=100000)/\∀p,H p=none->Q (.ref p) (upd H p (.lst ((List.range (hi-lo).toNat).map λ(k:Nat)=>V.int (lo+k))))):=by
 intro pins s Z H xs us Q I r h;obtain⟨a,lo,hi,rfl,ha,⟨h1,h2,h3,h4,h5⟩,q⟩:=h;obtain⟨t,u,v,ho⟩:=I.br a _ ha;cases r with
 |cons r rr =>
 cases rr;cases r;have hn:Builtin.Range.rangeSize lo hi 1=((hi-lo).toNat:Nat):=by rw[rangeSize_one];split<;>omega
 refine call_list_range (n:=(hi-lo).toNat) (I.ok.hd hc) ho (small_one h1 h2 h3 h4) hn (by omega) λh' iC acc c hk hS kB=>?_;have hp:H s.heap.objs.size=none:=I.br.fresh (aj _);refine⟨.ref _,_,I.laid (a:=s.heap.objs.size) (o:=.lst ((List.range (hi-lo).toNat).map λ(k:Nat)=>V.int (lo+k))) (t':=iC) hk (aj _) ⟨?_,acc.toList,c,Va kB,by simpa using hS⟩,rfl,q _ hp⟩;rw[ay,Yz];have:(hi-lo).toNat<=100000:=by omega
 exact aI this (by decide)
theorem Uw{a:Expr}(hg:Gl X "range")(hm:X.mg "range"=none)(ha:PA X [a] ta)(hs:starEach [a] X.env=[(false,eval a X.env)]):PE X (.Call (.Name "range" p) [a] [] pos) (λZ H Q=>ta Z H λvs H1=>∃j:Int,vs=[.int j]/\∀q,H1 q=none->Q (.ref q) (upd H1 q (.kO 0 j))):=by
 intro pins s Z H Q I h;refine cv (K6 I hg hm boot_range (bB (bS (ha pos pins s Z H _ I h) λus s1 aS=>?_) hs rfl));obtain⟨vs,H1,I1,r1,q1⟩:=aS;obtain⟨j,e,q⟩:=q1;subst e;cases r1 with
 |cons r rr =>
  cases rr;obtain⟨t,rfl⟩:=r;exact call_range_1 ⟨.ref s1.heap.objs.size,_,I1.laid (a:=s1.heap.objs.size) (o:=.kO 0 j) (λb o e=>ah _ e) (aj _) ⟨_,_,_,au _ rfl⟩,rfl,q _ (I1.br.fresh (aj _))⟩
theorem Ux{a b:Expr}(hg:Gl X "range")(hm:X.mg "range"=none)(ha:PA X [a,b] ta)(hs:starEach [a,b] X.env=[(false,eval a X.env),(false,eval b X.env)])(gC:starEach [b] X.env=[(false,eval b X.env)]):PE X (.Call (.Name "range" p) [a,b] [] pos) (λZ H Q=>ta Z H λvs H1=>∃i j:Int,vs=[.int i,.int j]/\∀q,H1 q=none->Q (.ref q) (upd H1 q (.kO i j))):=by
 intro pins s Z H Q I h;refine cv (K6 I hg hm boot_range (bB (bS (ha pos pins s Z H _ I h) λus s1 aS=>?_) (by rw[hs,gC]) (by rw[gC];rfl)));obtain⟨vs,H1,I1,r1,q1⟩:=aS;obtain⟨i,j,e,q⟩:=q1;subst e;cases r1 with
 |cons r rr =>
  cases rr with
  |cons r' rr =>
   cases rr;obtain⟨t,rfl⟩:=r;obtain⟨t',rfl⟩:=r';exact call_range_2 ⟨.ref s1.heap.objs.size,_,I1.laid (a:=s1.heap.objs.size) (o:=.kO i j) (λb o e=>ah _ e) (aj _) ⟨_,_,_,au _ rfl⟩,rfl,q _ (I1.br.fresh (aj _))⟩
def sS(K:PySem.W.Frag)(P:Params)(a:Addr)(kvs:List (Str×V)):Prop :=
 ∃es n,K.lookup a=some ⟨.type "dict",none,.dict es n,#[]⟩/\PySem.W.KeysLit P es.toList/\(a==sysModules)=false/\∀x,v7 (kvs.lookup x) (findBy Value.isStrOf es x)
theorem Ft{kvs:List (Str×V)}(neg:Bool):eY X (compareOp (if neg then .NotIn else .In)) (λx y H Q=>∃a z,y=.ref a/\sS X.K X.w.params a kvs/\x=.str z/\Q (.bl (xor neg (kvs.lookup z).isSome)) H):=by
 intro pins s Z H x y v u Q I rx ry h;obtain⟨a,z,rfl,⟨es,n,hl,hk,lo,hf⟩,rfl,q⟩:=h;obtain⟨t,rfl⟩:=rx;cases ry;have hm:=PySem.W.mapOf_K (prog:=X.prog) (w:=X.w) I.fE hl hk;have e:=hf z;have ee:(findBy Value.isStrOf es z).isSome=(kvs.lookup z).isSome:=by
  cases h1:kvs.lookup z<;>cases h2:findBy Value.isStrOf es z<;>rw[h1,h2] at e<;>first|rfl|exact e.elim
 cases neg
 ·exact wpAny_in_of (strKind_is X.prog X.w z t) lo hm ⟨.bl _,H,I.tok _,by rw[ee];rfl,by simpa using q⟩
 ·exact wpAny_notIn_of (strKind_is X.prog X.w z t) lo hm ⟨.bl _,H,I.tok _,by rw[ee];rfl,by simpa using q⟩
theorem QZ{kvs:List (Str×V)}:pG X (λx y H Q=>∃a z v,x=.ref a/\sS X.K X.w.params a kvs/\y=.str z/\kvs.lookup z=some v/\Q v H):=by
 intro value slice pins s Z H x y v u Q I rx ry h hs;obtain⟨a,z,d,rfl,⟨es,n,hl,hk,lo,hf⟩,rfl,hz,q⟩:=h;cases rx;obtain⟨t,rfl⟩:=ry;have hm:=PySem.W.mapOf_K (prog:=X.prog) (w:=X.w) I.fE hl hk;have e:=hf z;rw[hz] at e;cases h2:findBy Value.isStrOf es z with
 |none=>rw[h2] at e;exact e.elim
 |some r =>
  rw[h2] at e;exact tail_any hm.typeIs slot_dict_getitem.lookup (wpAny_getItem_of (strKind_is X.prog X.w z t) hm h2 ⟨d,H,I.tok _,e,q⟩) hs
theorem MK(hu:X.A.units+1<cLine):pG X (λx y H Q=>∃a v,x=.ref a/\U4 H a y (some v)/\Q v H):=by
 intro value slice pins s Z H x y v u Q I rx ry h hs;obtain⟨a,d,rfl,g,q⟩:=h;cases rx;exact tail_any (VO I g) slot_dict_getitem.lookup (TJ hu I g ry λw' s3 I3 eE=>⟨d,H,I3,eE,q⟩) hs
end L2
namespace ST
open PySem PyProof.Rows
variable{xs:Array Nat}{i k j n ep:Nat}{t:SetTable}{h h':Heap}{L:Bool}{es:Array (Int×Value)}{x f:Value}{prog:Program}{w:World}{a I b l:Addr}{ks ns:List Int}{A:Around}{E Q:Value->Shared->Prop}{s:Shared}{pl:List Nat}{α:Type}{r:Rd}{items:Array Value}
noncomputable abbrev jD(xs:Array Nat):Prop:=xs.toList.Pairwise (· < ·)
theorem jD.lt(h:jD xs)(rP:i<k)(hk:k<xs.size):xs.getD i 0<xs.getD k 0:=by
 have:=fQ.mp h i k (by simpa using bW rP hk) (by simpa using hk) rP;simp only[Array.getElem_toList] at this;rw[<- dk (h:=bW rP hk),<- dk (h:=hk)];exact this
theorem jD.le(h:jD xs)(rP:i<=k)(hk:k<xs.size):xs.getD i 0<=xs.getD k 0:=by
 rcases Nat.eq_or_lt_of_le rP with e|e
 ·rw[e];exact aj _
 ·exact cL (h.lt e hk)
theorem yR{xs:Array Nat}{j:Nat}(h:jD xs):∀(fuel lo hi:Nat),hi-lo<=fuel->lo<=hi->hi<=xs.size->(∀i,i<lo->xs.getD i 0<j)->(∀i,hi<=i->i<xs.size->j<=xs.getD i 0) ->
  SetTable.below.go xs j fuel lo hi<=xs.size/\(∀i,i<SetTable.below.go xs j fuel lo hi->xs.getD i 0<j)/\∀i,SetTable.below.go xs j fuel lo hi<=i->i<xs.size->j<=xs.getD i 0
 |0,lo,hi,h1,h2,h3,h4,h5=>by
  unfold SetTable.below.go;have:lo=hi:=by omega
  subst this;exact⟨h3,h4,h5⟩
 |fuel+1,lo,hi,h1,h2,h3,h4,h5=>by
  unfold SetTable.below.go;split
  ·rename_i hl;have hm:(lo+hi) / 2<xs.size:=by omega
   have em:xs.getD ((lo+hi) / 2) j=xs.getD ((lo+hi) / 2) 0:=by simp[Array.getD,hm]
   dsimp only;rw[em];by_cases hc:xs.getD ((lo+hi) / 2) 0<j
   ·rw[aK hc];exact yR h fuel _ hi (by omega) (by omega) h3 (λi kB=>jj (h.le (by omega) hm) hc) h5
   ·rw[aD hc];exact yR h fuel lo _ (by omega) (by omega) (by omega) h4 λi kB hs=>aI (kh hc) (h.le kB hs)
  ·have:lo=hi:=by omega
   subst this;exact⟨h3,h4,h5⟩
theorem O6(j:Nat)(h:jD xs):SetTable.below xs j<=xs.size/\(∀i,i<SetTable.below xs j->xs.getD i 0<j)/\∀i,SetTable.below xs j<=i->i<xs.size->j<=xs.getD i 0 :=
 yR h _ 0 _ (by omega) (by omega) (aj _) (λi hi=>absurd hi (Nat.not_lt_zero _)) λi h1 h2=>absurd h2 (by omega)
theorem below_at(h:jD xs)(hi:i<xs.size):SetTable.below xs (xs.getD i 0)=i:=by
 obtain⟨h1,h2,h3⟩:=O6 (xs.getD i 0) h;rcases jG (SetTable.below xs (xs.getD i 0)) i with z|z|z
 ·exact absurd (h3 _ (aj _) (by omega)) (Nat.not_le_of_lt (h.lt z hi))
 ·exact z
 ·exact absurd (h2 i z) (aX _)
theorem UU(h:jD xs)(hi:i<xs.size):SetTable.below xs (xs.getD i 0+1)=i+1:=by
 obtain⟨h1,h2,h3⟩:=O6 (xs.getD i 0+1) h;rcases jG (SetTable.below xs (xs.getD i 0+1)) (i+1) with z|z|z
 ·have:=h3 i (by omega) hi;omega
 ·exact z
 ·have:=h2 (i+1) z;have:=h.lt (dA i) (k:=i+1) (by omega);omega
theorem UW(h:jD xs):SetTable.below xs 0=0:=by
 obtain⟨_,h2,_⟩:=O6 0 h;rcases Nat.eq_zero_or_pos (SetTable.below xs 0) with z|z
 ·exact z
 ·exact absurd (h2 0 z) (Nat.not_lt_zero _)
theorem getD_mem(hi:i<xs.size):xs[i]?=some (xs.getD i 0):=by simp[Array.getD,hi]
theorem Vx(h:jD t.place)(hs:t.slot j=.empty):j∉t.place.toList:=by
 intro hm;obtain⟨i,hi,e⟩:=dw.mp hm;have kB:i<t.place.size:=by simpa using hi
 have ej:t.place.getD i 0=j:=by rw[<- dk (h:=kB)];simpa using e
 have hb:=below_at h kB;rw[ej] at hb;unfold SetTable.slot at hs;dsimp only at hs;rw[hb,getD_mem kB,ej] at hs;simp at hs
theorem Vu(h:jD xs)(hj:j∉xs.toList):jD (SetTable.insertAt xs (SetTable.below xs j) j):=by
 obtain⟨h1,h2,h3⟩:=O6 j h;show(SetTable.insertAt xs (SetTable.below xs j) j).toList.Pairwise (· < ·);rw[SetTable.toList_insertAt,vX];have tk:∀a∈xs.toList.take (SetTable.below xs j),a<j:=λa ha=>by
  obtain⟨i,hi,e⟩:=dw.mp ha;rw[cg] at hi;rw[jI] at e;have hs:i<xs.size:=by simp at hi;omega
  have:=h2 i (by omega);rw[<- dk (h:=hs)] at this;simp at e;omega
 have dp:∀b∈xs.toList.drop (SetTable.below xs j),j<b:=λb hb=>by
  obtain⟨i,hi,e⟩:=dw.mp hb;rw[gz] at hi;rw[YA] at e;have hs:SetTable.below xs j+i<xs.size:=by simp at hi;omega
  have:=h3 (SetTable.below xs j+i) (by omega) hs;rw[<- dk (h:=hs)] at this;have eR:b≠j:=λz=>hj (by rw[<- z];exact List.mem_of_mem_drop hb);simp at e;omega
 refine⟨h.take,cC.mpr ⟨dp,h.drop⟩,λa ha b hb=>?_⟩;have kE:=tk a ha;rcases aw.mp hb with z|z
 ·omega
 ·have:=dp b z;omega
theorem UG(n:Nat):jD (Array.range n):=by
 show(Array.range n).toList.Pairwise (· < ·);rw[Array.toList_range];exact qz
structure Well(L:Bool)(t:SetTable):Prop where
 uw:jD t.place
 yn:t.dummies=#[]
 led:t.led=L
theorem Xj(hd:t.dummies=#[])(j:Nat):t.slot j≠.dummy:=by
 unfold SetTable.slot;dsimp only;split
 ·intro z;cases z
 ·rw[hd];split
  ·rename_i z;simp[SetTable.has] at z
  ·intro z;cases z
theorem EW{t:SetTable}(hd:t.dummies=#[]){hashAt:Nat->Int}{h:Int}:∀(fuel:Nat) (p:SetTable.Probe) {j:Nat} {dm:Option Nat},p.dummy=none->SetTable.probe.go t hashAt h fuel p=some (.empty j dm)->t.slot j=.empty/\dm=none
 |0,p,j,dm,_,e=>by simp[SetTable.probe.go] at e
 |fuel+1,p,j,dm,hp,e=>by
  unfold SetTable.probe.go at e;have ad:∀q:SetTable.Probe,q.dummy=none->(t.advance q).dummy=none:=λq hq=>by
   unfold SetTable.advance;split
   ·exact hq
   ·exact hq
  split at e
  ·rename_i hs;cases e;exact⟨hs,hp⟩
  ·rename_i hs;exact absurd hs (Xj hd _)
  ·split at e
   ·cases e
   ·exact EW hd fuel _ (ad p hp) e
theorem TN(hd:t.dummies=#[]){h:Int}{wd:Bool}(e:t.freeSlot h=some (j,wd)):t.slot j=.empty/\wd=false:=by
 unfold SetTable.freeSlot at e;split at e
 ·rename_i j' dm hp;obtain⟨h1,h2⟩:=EW hd _ _ rfl hp;subst h2;cases e;exact⟨h1,rfl⟩
 ·cases e
theorem J6(h:Well L t)(n:Nat):Well L (t.standIn n):=⟨UG n,rfl,h.led⟩
theorem VS{h:Int}(hw:Well L t):Well L (layNew t es h x).2.1/\(layNew t es h x).2.2.1=false:=by
 unfold layNew;split
 ·rename_i slot wd e;obtain⟨h1,h2⟩:=TN hw.yn e;refine⟨?_,h2⟩;have hd:SetTable.has t.dummies slot=false:=by rw[hw.yn];simp[SetTable.has]
  have w2:Well L (t.put slot).1:=⟨Vu hw.uw (Vx hw.uw h1),by simp only[SetTable.put,hd];exact hw.yn,hw.led⟩
  dsimp only;unfold SetTable.orStandIn;split
  ·exact w2
  ·exact J6 w2 _
 ·exact⟨J6 hw _,rfl⟩
theorem Ud{mask finger moves:Nat}{led plain:Bool}{hashes:Array Int}{o:Array Nat}(hl:led=L)(e:SetTable.laid mask finger moves led plain hashes=some (t,o)):Well L t:=by
 unfold SetTable.laid at e;cases ho:SetTable.layClean mask hashes with
 |none=>rw[ho] at e;cases e
 |some owner =>
  rw[ho] at e;simp only[Option.bind_eq_bind,Option.bind_some,Option.pure_def,Option.some.injEq,Prod.mk.injEq] at e;obtain⟨rfl,_⟩:=e;refine⟨?_,rfl,hl⟩;show(List.map _ _).toArray.toList.Pairwise (· < ·);rw[List.toList_toArray];have sub:((List.range (mask+1)).filterMap λj=>(owner.getD j none).map (j,·)).map (·.1) |>.Sublist (List.range (mask+1)):=by
   generalize List.range (mask+1)=l
   induction l with
   |nil=>simp
   |cons a r ih =>
    rw[dI];cases owner.getD a none with
    |none=>exact ih.cons a
    |some k=>exact ih.cons_cons a
  exact uj sub qz
theorem SV(hw:Well L t):Well L (relayAll t es n).2.1:=by
 unfold relayAll;split
 ·rename_i t' order e;dsimp only;split
  ·exact Ud hw.led e
  ·exact J6 hw _
 ·exact J6 hw _
def toI:Value->Int
 |.int k _=>k
 |_=>0
def Led(w:World):Bool:=!(w.params.followText "set-order")
def m5(prog:Program)(w:World)(h:Heap)(a:Addr)(ks:List Int):Prop :=
 ∃o es ep t,h.get? a=some o/\o.ExactSet/\o.data=.set es ep t/\ElemsOf (intKind prog w) es.toList/\(es.toList.map λe=>toI e.2).Perm ks/\ks.Nodup/\es.size<scanBound/\t.fits es.size=true/\Well (Led w) t
theorem m5.at(x:m5 prog w h a ks)(k:∀o,h.get? a=some o->h'.get? a=some o):m5 prog w h' a ks:=by
 obtain⟨o,es,ep,t,e,r⟩:=x;exact⟨o,es,ep,t,k o e,r⟩
theorem vA{e:Int×Value}{es:List (Int×Value)}(h:ElemsOf (intKind prog w) es)(he:e∈es):∃tk,e.2=.int (toI e.2) tk/\e.1=(intKind prog w).hash (toI e.2):=by
 obtain⟨⟨k,h1,h2⟩,_⟩:=h e he;obtain⟨t,ht⟩:=mF (k:=k) (v:=e.2) h1;refine⟨t,by rw[ht];rfl,?_⟩;rw[h2,ht]
 rfl
theorem Fm{e:Int×Value}{es:List (Int×Value)}(h:ElemsOf (intKind prog w) es)(he:e∈es)(k:Int):(intKind prog w).is k e.2=decide (toI e.2=k):=by
 obtain⟨t,ht,_⟩:=vA h he;show Value.isInt k e.2=_;rw[ht];generalize toI e.2=m;show Value.isInt k (.int m t)=decide (m=k);by_cases z:m=k
 ·subst z;simp[Value.isInt]
 ·rw[aR z];cases hv:Value.isInt k (.int m t) with
  |false=>rfl
  |true =>
   obtain⟨t',e'⟩:=mF hv;cases e';exact absurd rfl z
theorem m5.mem{a:Addr}{es:List (Int×Value)}(h:ElemsOf (intKind prog w) es)(hp:(es.map λe=>toI e.2).Perm ks)(k:Int):(es.findIdx? λe=>(intKind prog w).is k e.2).isSome=decide (k∈ks):=by
 rw[bY,dW,<- hp.mem_iff,aC,dP];constructor
 ·rintro⟨i,hi⟩;obtain⟨h1,h2,_⟩:=jB.mp hi;have hm:=eU h1;rw[Fm h hm] at h2;exact⟨_,hm,aQ h2⟩
 ·rintro⟨e,he,rfl⟩;cases hf:es.findIdx? λe'=>(intKind prog w).is (toI e.2) e'.2 with
  |some i=>exact⟨i,rfl⟩
  |none =>
   have:=List.findIdx?_eq_none_iff.mp hf e he;rw[Fm h he] at this;simp at this
def x6(ks:List Int)(k:Int):List Int:=if k∈ks then ks else ks++[k]
theorem WB(ks:List Int)(k:Int):(x6 ks k).length<=ks.length+1:=by unfold x6;split<;>simp
theorem Cy{k:Int}{tk:Tok}{Q:Bool->Shared->Prop}(hS:m5 prog w s.heap a ks)(hr:ks.length+1<scanBound)(h:∀h' b,Heap.SameBut a s.heap h'->m5 prog w h' a (x6 ks k)->Q b { s with heap:=h' }):wpAny (model prog w) A (setAddHashed a (.int k tk) ((intKind prog w).hash k)) Q E s:=by
 obtain⟨o,es,ep,t,ho,hx,hd,lN,hp,hn,hb,hf,hw⟩:=hS;have hlen:es.size=ks.length:=by rw[<- hp.length_eq];simp
 have kA:(intKind prog w).is k (.int k tk)=true:=dO _ _ _ _;have gv:∀(b:Bool) (s1:Shared) (Q':Unit->Shared->Prop),Q' () s1->wpAny (model prog w) A (match b with|true=>rule "set.scan.the-table-gave-way"|false=>pure ()) Q' E s1:=λb s1 Q' q=>by
  cases b
  ·exact ai q
  ·exact eM q
 unfold setAddHashed setAddHashedIn;refine bj (aa (cb ho hd hf ?_));dsimp only;rw[byScan_of rfl hb lN,aK rfl];unfold setAddByScan;refine aa (aa (eM (aa (wpAny_setScan_of kA ho hd hf lN ?_))));have hm:=m5.mem (a:=a) lN hp k;cases rE:es.toList.findIdx? (λe=>(intKind prog w).is k e.2) with
 |some j =>
  rw[rE] at hm;have hk:k∈ks:=by simpa using hm.symm
  refine ai (ai ?_);have e0:s={ s with heap:=s.heap }:=rfl;rw[e0];refine h s.heap _ (Heap.SameBut.refl a s.heap) ?_;unfold x6;rw[aK hk];exact⟨o,es,ep,t,ho,hx,hd,lN,hp,hn,hb,hf,hw⟩
 |none =>
  rw[rE] at hm;have hk:k∉ks:=by simpa using hm.symm
  dsimp only;have p1:=layNew_perm t es ((intKind prog w).hash k) (.int k tk);have f1:=layNew_fits t es ((intKind prog w).hash k) (.int k tk);obtain⟨w1,wj⟩:=VS (es:=es) (h:=(intKind prog w).hash k) (x:=.int k tk) hw;generalize layNew t es ((intKind prog w).hash k) (.int k tk)=R1 at p1 f1 w1 wj ⊢;obtain⟨gs,t1,wd,Jw⟩:=R1;dsimp only at p1 f1 w1 wj ⊢;subst wj;rw[YD] at p1;have BR:ElemsOf (intKind prog w) gs.toList:=(lN.push kA rfl).perm p1;have YJ:gs.size=es.size+1:=by rw[<- bP,p1.length_eq];simp
  have k1:(gs.toList.map λe=>toI e.2).Perm (x6 ks k):=by
   unfold x6;rw[aD hk];refine(p1.map _).trans ?_;rw[dU];exact hp.append_right _
  have n1:(x6 ks k).Nodup:=by
   unfold x6;rw[aD hk,fY];exact⟨hn,by simp,λx hx y hy=>by simp at hy;subst hy;exact λz=>hk (z▸hx)⟩
  refine aa (gv _ _ _ ?_);have fin:∀ (t2:SetTable),t2.fits gs.size=true->Well (Led w) t2->wpAny (model prog w) A (do
    storeSet a gs t2
    if(!false&&t2.tooFull)=true then do
      (match(relayAll t2 gs (SetTable.grown gs.size)).2.2 with|true=>rule "set.scan.the-table-gave-way"|false=>pure ())
      storeSet a (relayAll t2 gs (SetTable.grown gs.size)).1 (relayAll t2 gs (SetTable.grown gs.size)).2.1
      pure (some true)
     else pure (some true)) (λr s'=>wpAny (model prog w) A (match r with | some added=>pure added | none=>setAddHashedIn a (.int k tk) ((intKind prog w).hash k) 99999) Q E s') E s:=λt2 f2 w2=>by
   have g1:(s.heap.update a (Obj.putSet gs t2)).get? a=some { o with data:=.set gs (ep+1) t2 }:=by
    have:=aW (Obj.putSet gs t2) ho (by rw[Yu gs t2 hd];rfl);rw[Yu gs t2 hd] at this;exact this
   refine aa (wpAny_storeSet_of ho hd ?_ (fits_of_scanBound (by omega)));have AS:=bU s.heap a (Obj.putSet gs t2);split
   ·have p2:=relayAll_perm t2 gs (SetTable.grown gs.size);have f3:=relayAll_fits t2 gs (SetTable.grown gs.size);have w3:=SV (es:=gs) (n:=SetTable.grown gs.size) w2;generalize relayAll t2 gs (SetTable.grown gs.size)=R2 at p2 f3 w3 ⊢;obtain⟨oZ,t3,Zj⟩:=R2;dsimp only at p2 f3 w3 ⊢;have YI:oZ.size=gs.size:=by rw[<- bP,p2.length_eq,bP]
    refine aa (gv _ _ _ ?_);refine aa (wpAny_storeSet_of g1 rfl ?_ (fits_of_scanBound (by omega)));refine ai (ai (h _ _ (AS.trans (bU _ a _)) ?_));have g2:((s.heap.update a (Obj.putSet gs t2)).update a (Obj.putSet oZ t3)).get? a=some { o with data:=.set oZ (ep+1+1) t3 }:=by
     have:=aW (Obj.putSet oZ t3) g1 (by rw[Yu oZ t3 rfl];rfl);rw[Yu oZ t3 rfl] at this;exact this
    exact⟨_,oZ,_,t3,g2,hx,rfl,BR.perm p2,(p2.map _).trans k1,n1,by omega,f3,w3⟩
   ·exact ai (ai (h _ _ AS ⟨_,gs,_,t2,g1,hx,rfl,BR,k1,n1,by omega,f1 |> λ_=>f2,w2⟩))
  split
  ·refine aa (dN (hashByValue_scannable 8 rfl) ?_);exact fin _ f1 w1
  ·refine aa (ai ?_);exact fin _ f1 w1
theorem Wt:entryFor table "set.__iter__"=some Builtin.«frozenset.__iter__» :=
 vV (id':="frozenset.__iter__") (by kernel_rfl) rfl (by decide +kernel) (by kernel_rfl)
theorem w5:Slot "set_iterator" "__next__" "set_iterator.__next__" :=
 .of (owner:="set_iterator") (n:="__next__") (by rw[fP,dz];kernel_rfl) (by decide +kernel) (by decide +kernel) (by decide +kernel)
  (by first|exact .inl (by decide +kernel)|exact .inr (by decide +kernel)) (by rw[fb];kernel_rfl)
theorem EM:entryFor table "set_iterator.__next__"=some Builtin.«set_iterator.__next__»:=entryFor_of_tree (by kernel_rfl)
theorem EZ(a:Value):argsOk "set_iterator.__next__" ⟨[a],[]⟩:=by
 unfold argsOk
 kernel_rfl
theorem Fe:Slot "set_iterator" "__iter__" "set_iterator.__iter__" :=
 .of (owner:="set_iterator") (n:="__iter__") (by rw[fP,dz];kernel_rfl) (by decide +kernel) (by decide +kernel) (by decide +kernel)
  (by first|exact .inl (by decide +kernel)|exact .inr (by decide +kernel)) (by rw[fb];kernel_rfl)
theorem VQ:entryFor table "set_iterator.__iter__"=some Builtin.«dict_keyiterator.__iter__» :=
 vV (id':="dict_keyiterator.__iter__") (by kernel_rfl) rfl (by decide +kernel) (by kernel_rfl)
theorem Wl(a:Value):argsOk "set_iterator.__iter__" ⟨[a],[]⟩:=by
 unfold argsOk
 kernel_rfl
inductive Rd|text|plain|drawn
structure Lies(h:Heap)(a:Addr)(es:Array (Int×Value))(ep:Nat)(t:SetTable):Prop where
 at_:∃o,h.get? a=some o/\o.cls=.type "set"/\o.data=.set es ep t
 fit:t.fits es.size=true
theorem Lies.at(x:Lies h a es ep t)(k:∀o,h.get? a=some o->h'.get? a=some o):Lies h' a es ep t :=
 ⟨let ⟨o,e,r⟩:=x.at_;⟨o,k o e,r⟩,x.fit⟩
def A5(h:Heap)(I a:Addr)(f:Value)(i n ep:Nat):Prop:=∃o,h.get? I=some o/\o.cls=.type "set_iterator"/\o.data=.fields #[f,rawInt i,.ref a,rawInt n,rawInt ep]
theorem A5.at(x:A5 h I a f i n ep)(k:∀o,h.get? I=some o->h'.get? I=some o):A5 h' I a f i n ep:=let ⟨o,e,r⟩:=x;⟨o,k o e,r⟩
theorem A5.ty(x:A5 s.heap I a f i n ep):s.TypeIs (.ref I) "set_iterator":=let ⟨o,e,c,_⟩:=x;⟨o,e,c⟩
def tf(w:World)(a:Addr)(es:Array (Int×Value))(ep:Nat)(pl:List Nat):Rd->List Value
 |.text=>(pickOrder (w.params.setOrder a ep) es).toList.map (·.2)
 |.plain=>es.toList.map (·.2)
 |.drawn=>pl.map λj=>(es.getD j (0,.none)).2
def slotAt(t:SetTable):Nat->Nat
 |0=>0
 |i+1=>t.place.getD i 0+1
def M3(h:Heap)(t:SetTable)(b:Addr)(pl:List Nat)(i:Nat)(f:Value):Rd->Prop
 |.text=>∃k:Nat,f=rawInt k
 |.plain=>f=rawInt (slotAt t i)
 |.drawn=>f=.ref b/\∃o e,h.get? b=some o/\o.cls=.type "tuple"/\o.data=.seq (pl.map λj=>rawInt (j:Nat)).toArray e
def qb(w:World)(es:Array (Int×Value))(t:SetTable)(pl:List Nat):Rd->Prop
 |.text=>w.params.followText "set-order"=true
 |.plain=>w.params.followText "set-order"=false/\(t.plain=true\/es.size<=1)/\Well true t
 |.drawn=>w.params.followText "set-order"=false/\pl.Perm (List.range es.size)
theorem tF{Q:Bool->Shared->Prop}(h:Q (w.params.followText "set-order") s):wpAny (model prog w) A setsByText Q E s:=by
 unfold setsByText;exact aa (oj (ai h))
theorem Ef(hL:Lies s.heap a es ep t)(ht:w.params.followText "set-order"=true){sl g:Nat}{Q:Option (Value×Nat)->Shared->Prop}(h:Q (((pickOrder (w.params.setOrder a ep) es)[g]?).map λe=>(e.2,sl)) s) :
  wpAny (model prog w) A (setNext a sl g ep) Q E s:=by
 obtain⟨o,ho,_,hd⟩:=hL.at_;unfold setNext;refine aa (cb ho hd hL.fit ?_);refine aa (tF ?_);rw[ht,aK rfl,aD (by simp)];unfold setWalk;refine aa (aa (cb ho hd hL.fit ?_));refine aa (tF ?_);rw[ht,aK rfl];exact aa (oj (ai (ai h)))
theorem EF(hL:Lies s.heap a es ep t)(ht:w.params.followText "set-order"=false)(hp:t.plain=true\/es.size<=1)(hl:t.led=true){sl g:Nat}{Q:Option (Value×Nat)->Shared->Prop}(h:Q (match es[SetTable.below t.place sl]?,t.place[SetTable.below t.place sl]? with|some (_,x),some j=>some (x,j+1)|_,_=>none) s):wpAny (model prog w) A (setNext a sl g ep) Q E s:=by
 obtain⟨o,ho,_,hd⟩:=hL.at_;unfold setNext;refine aa (cb ho hd hL.fit ?_);refine aa (tF ?_);rw[ht,aD (by decide)];show wpAny _ _ (if(!t.plain&&decide (es.size>1))=true then _ else _) _ _ _;rw[aD (by rcases hp with e|e<;>simp[e])];refine aa (dN (a:=()) ?_ (ai h));show((if(!t.led&&!es.isEmpty)=true then unsupported "set:maker-not-led" else pure ()):Sem Unit)=pure ();rw[hl]
 rfl
theorem Vo(hL:Lies s.heap a es ep t)(hj:j<es.size)(h:Q (es.getD j (0,.none)).2 s):wpAny (model prog w) A (setNextDrawn a j ep) Q E s:=by
 obtain⟨o,ho,_,hd⟩:=hL.at_;unfold setNextDrawn;refine aa (cb ho hd hL.fit ?_);dsimp only;rw[aD (by simp)];have e:es[j]?=some (es.getD j (0,.none)):=by simp[Array.getD,hj]
 rw[e];exact ai h
theorem DD(hL:Lies s.heap a es ep t):t.place.size=es.size:=by
 have:=hL.fit;unfold SetTable.fits at this;simp at this;exact this.1
theorem Em(hw:jD t.place)(hi:i<=t.place.size):SetTable.below t.place (slotAt t i)=i:=by
 cases i with
 |zero=>exact UW hw
 |succ i=>exact UU hw (by omega)
theorem entries{Q:Array (Int×Value)->Shared->Prop}(hL:Lies s.heap a es ep t)(h:Q es s):wpAny (model prog w) A (setEntries a) Q E s:=by
 obtain⟨o,ho,_,hd⟩:=hL.at_;unfold setEntries;exact aa (cb ho hd hL.fit (ai h))
theorem OM{f':Value}(hi:A5 h I a f i n ep)(hx:x=rawInt ((i:Int)+1)):A5 ((h.update I (Obj.mapFields (·.setIfInBounds 0 f'))).update I (Obj.mapFields (·.setIfInBounds 1 x))) I a f' (i+1) n ep:=by
 obtain⟨o,ho,hc,hd⟩:=hi;have h1:=aW (Obj.mapFields (·.setIfInBounds 0 f')) ho (cQ (bo hd _));have d1:(Obj.mapFields (·.setIfInBounds 0 f') o).data=.fields #[f',rawInt i,.ref a,rawInt n,rawInt ep]:=by rw[bo hd];simp
 have h2:=aW (Obj.mapFields (·.setIfInBounds 1 x)) h1 (cQ (bo d1 _));refine⟨_,h2,(mH ..).trans ((mH ..).trans hc),?_⟩;rw[bo d1];subst hx;simp[rawInt]
theorem OL(hi:A5 h I a f i n ep)(hx:x=rawInt ((i:Int)+1)):A5 (h.update I (Obj.mapFields (·.setIfInBounds 1 x))) I a f (i+1) n ep:=by
 obtain⟨o,ho,hc,hd⟩:=hi;have h2:=aW (Obj.mapFields (·.setIfInBounds 1 x)) ho (cQ (bo hd _));refine⟨_,h2,(mH ..).trans hc,?_⟩;rw[bo hd];subst hx;simp[rawInt]
theorem Cr{f':Value}{m:Sem α}{Q':α->Shared->Prop}(hi:A5 s.heap I a f i n ep)(hx:x=rawInt ((i:Int)+1))(h:∀h',A5 h' I a f' (i+1) n ep->Heap.SameBut I s.heap h'->wpAny (model prog w) A m Q' E { s with heap:=h' }) :
  wpAny (model prog w) A (do setField (.ref I) 0 f';setField (.ref I) 1 x;m) Q' E s:=by
 obtain⟨o,ho,hc,hd⟩:=id hi;refine aa (dg ho hd (by simp) ?_);have h1:=aW (Obj.mapFields (·.setIfInBounds 0 f')) ho (cQ (bo hd _));have d1:(Obj.mapFields (·.setIfInBounds 0 f') o).data=.fields #[f',rawInt i,.ref a,rawInt n,rawInt ep]:=by rw[bo hd];simp
 refine aa (dg (s:={ s with heap:=_ }) h1 d1 (by simp) ?_);exact h _ (OM hi hx) ((bU ..).trans (bU ..))
theorem PL{m:Sem α}{Q':α->Shared->Prop}(hi:A5 s.heap I a f i n ep)(hx:x=rawInt ((i:Int)+1))(h:∀h',A5 h' I a f (i+1) n ep->Heap.SameBut I s.heap h'->wpAny (model prog w) A m Q' E { s with heap:=h' }) :
  wpAny (model prog w) A (do setField (.ref I) 1 x;m) Q' E s:=by
 obtain⟨o,ho,hc,hd⟩:=id hi;refine aa (dg ho hd (by simp) ?_);exact h _ (OL hi hx) (bU ..)
theorem zg(next:Nat->Nat)(xs:Array α):(pickOrder next xs).toList.Perm xs.toList:=by
 have go:∀(fuel k:Nat) (left:List α) (out:Array α),fuel=left.length->(pickOrder.go next fuel k left out).toList.Perm (out.toList++left):=by
  intro fuel
  induction fuel with
  |zero =>
   intro k left out e;have:left=[]:=kL e.symm;subst this;simp[pickOrder.go]
  |succ n ih =>
   intro k left out e;have dF:next k % left.length<left.length:=Nat.mod_lt _ (by omega)
   unfold pickOrder.go;rw[az dF];refine(ih _ _ _ (by rw[mI dF];omega)).trans ?_;rw[YD,eI];refine List.Perm.append_left _ ?_;have:left.Perm (left[next k % left.length]::left.eraseIdx (next k % left.length)):=by
    rw[jT]
    conv=>lhs;rw[<- gZ (next k % left.length) left,dG dF]
    exact Zy
   exact this.symm
 have:=go xs.size 0 xs.toList #[] (by simp);simpa[pickOrder] using this
theorem next_item{Q:Option Value->Shared->Prop}(hL:Lies s.heap a es ep t)(hr:qb w es t pl r)(hi:A5 s.heap I a f i es.size ep)(hf:M3 s.heap t b pl i f r)(eR:b≠I)(dF:i<es.size)(h:∀v h' f',(tf w a es ep pl r)[i]?=some v->A5 h' I a f' (i+1) es.size ep->M3 h' t b pl (i+1) f' r->Heap.SameBut I s.heap h'->Q (some v) { s with heap:=h' }):wpAny (model prog w) A (pyNext (.ref I)) Q E s:=by
 obtain⟨o,ho,hc,hd⟩:=id hi;unfold pyNext;refine aa (wpAny_attempt (eO (name:=Str.ofString "__next__") hi.ty w5 (bD w5 hi.ty EM ?_ (EZ _))));unfold Builtin.«set_iterator.__next__»;refine aa (ai ?_);refine aa (wpAny_fieldsOf ho hd ?_);dsimp only[rawInt];refine aa (entries hL ?_);rw[aD (by simp)];rw[cO,cO];cases r with
 |text =>
  obtain⟨k,rfl⟩:=hf;dsimp only[rawInt];refine aa (Ef hL hr ?_);have hl:i<(pickOrder (w.params.setOrder a ep) es).size:=by
   have:=(zg (w.params.setOrder a ep) es).length_eq;simp at this;omega
  rw[fR hl];refine Cr hi rfl λh' h1 h2=>ai ⟨_,rfl,ai (h _ _ _ ?_ h1 ⟨_,rfl⟩ h2)⟩;show((pickOrder (w.params.setOrder a ep) es).toList.map (·.2))[i]?=_;simp[hl]
 |plain =>
  obtain⟨r1,r2,r3⟩:=hr;have hs:=DD hL;obtain rfl:=hf;dsimp only[rawInt];rw[cO];refine aa (EF hL r1 r2 r3.led ?_);rw[Em r3.uw (by omega),fR dF,getD_mem (by omega)];refine Cr hi rfl λh' h1 h2=>ai ⟨_,rfl,ai (h _ _ _ ?_ h1 rfl h2)⟩;show(es.toList.map (·.2))[i]?=_;simp[dF]
 |drawn =>
  obtain⟨r1,r2⟩:=hr;obtain⟨rfl,ob,e,hb,BE,uE⟩:=hf;have fO:i<pl.length:=by rw[r2.length_eq];simpa using dF
  dsimp only;refine aa (wpAny_seqItems hb uE ?_);have hj:pl[i]<es.size:=by
   have:=r2.mem_iff.mp (eU fO);simpa using this
  have e1:(pl.map λj=>rawInt (j:Nat)).toArray[i]?=some (rawInt (pl[i]:Nat)):=by simp[fO]
  dsimp only;rw[e1];dsimp only[rawInt];rw[cO];refine aa (Vo hL hj ?_);refine PL hi rfl λh' h1 h2=>ai ⟨_,rfl,ai (h _ _ _ ?_ h1 ⟨rfl,ob,e,by rw[h2.2 b eR];exact hb,BE,uE⟩ h2)⟩;show(pl.map λj=>(es.getD j (0,.none)).2)[i]?=_;simp[fO]
theorem zh{Q:Option Value->Shared->Prop}{h0:Heap}(hh:A.handled=none)(Jr:Heap.ExtBut I h0 s.heap)(h:∀h',Heap.ExtBut I h0 h'->Q none { s with heap:=h' }) :
  wpAny (model prog w) A.in1 (newExc (.type "StopIteration") [] >>= λe=>(raiseNew e:Sem Fin)) (λfin s'=>∃v,fin=Fin.done (Flow.ret v)/\wpAny (model prog w) A (pure (some v)) Q E s')
   (λe s'=>wpAny (model prog w) A (do
     let x <- isInstance e (Value.type "StopIteration")
     if x=true then pure none else throw e) Q E s') s:=by
 refine aa ?_;simp only[newExc,newTuple];refine aa (bz ?_ (by size_fits));refine aa (m:=firstArgMember _ _) (dN (a:=Value.none) (by first|rfl|(simp only[firstArgMember];rfl)) ?_);refine bz ?_ (by size_fits);simp only[raiseNew];refine aa (wpAny_handled ?_);rw[show A.in1.handled=none from hh];refine aa (ai (wpAny_throw ?_));refine aa (fB (T:="StopIteration") (b:=true) ⟨_,au _ rfl,rfl⟩ isSubtype_stop ?_);exact ai (h _ ((Jr.push _).push _))
theorem next_end{Q:Option Value->Shared->Prop}(hh:A.handled=none)(hL:Lies s.heap a es ep t)(hr:qb w es t pl r)(hi:A5 s.heap I a f es.size es.size ep)(hf:M3 s.heap t b pl es.size f r)(eR:b≠I)(h:∀h',Heap.ExtBut I s.heap h'->Q none { s with heap:=h' }):wpAny (model prog w) A (pyNext (.ref I)) Q E s:=by
 obtain⟨o,ho,hc,hd⟩:=id hi;unfold pyNext;refine aa (wpAny_attempt (eO (name:=Str.ofString "__next__") hi.ty w5 (bD w5 hi.ty EM ?_ (EZ _))));unfold Builtin.«set_iterator.__next__»;refine aa (ai ?_);refine aa (wpAny_fieldsOf ho hd ?_);dsimp only[rawInt];refine aa (entries hL ?_);rw[aD (by simp)];rw[cO,cO];cases r with
 |text =>
  obtain⟨k,rfl⟩:=hf;dsimp only[rawInt];refine aa (Ef hL hr ?_);have hl:(pickOrder (w.params.setOrder a ep) es).size<=es.size:=by
   have:=(zg (w.params.setOrder a ep) es).length_eq;simp at this;omega
  rw[qG hl];refine aa (dg ho hd (by simp) ?_);exact zh (s:={ s with heap:=_ }) hh (bU ..).extBut h
 |plain =>
  obtain⟨r1,r2,r3⟩:=hr;have hs:=DD hL;obtain rfl:=hf;dsimp only[rawInt];rw[cO];refine aa (EF hL r1 r2 r3.led ?_);rw[Em r3.uw (by omega),qG (aj _)];refine aa (dg ho hd (by simp) ?_);exact zh (s:={ s with heap:=_ }) hh (bU ..).extBut h
 |drawn =>
  obtain⟨r1,r2⟩:=hr;obtain⟨rfl,ob,e,hb,BE,uE⟩:=hf;have fO:pl.length=es.size:=by rw[r2.length_eq];simp
  dsimp only;refine aa (wpAny_seqItems hb uE ?_);have e1:(pl.map λj=>rawInt (j:Nat)).toArray[es.size]?=none:=by simp[fO]
  dsimp only;rw[e1];dsimp only[rawInt];refine aa (dg ho hd (by simp) ?_);have h1:=aW (Obj.mapFields (·.setIfInBounds 0 (Value.int 0 0))) ho (cQ (bo hd _));refine aa (dg (s:={ s with heap:=_ }) h1 (bo hd _) (by simp) ?_);exact zh (s:={ s with heap:=_ }) hh ((bU ..).trans (bU ..)).extBut h
theorem Uy{l:List α}(dF:k<l.length):(l[k]::l.eraseIdx k).Perm l:=by
 rw[jT]
 conv=>rhs;rw[<- gZ k l,dG dF]
 exact Zy.symm
theorem Es{α:Type}:∀(n:Nat) (xs:List α) (s:Shared) (Q:List α->Shared->Prop),n=xs.length->(∀ys d,ys.Perm xs->Q ys { s with drawn:=d })->wpAny (model prog w) A (drawOrder n xs) Q E s
 |0,xs,s,Q,e,h=>by
  have:xs=[]:=kL e.symm;subst this;exact ai (h [] s.drawn (mJ _))
 |n+1,[],s,Q,e,h=>by simp at e
 |n+1,x::xs,s,Q,e,h=>by
  unfold drawOrder;refine aa ?_;intro Γ p YX;refine⟨by simp,?_⟩;generalize (model prog w).w.draws .order (s.drawn.get .order)=k;have dF:k % (x::xs).length<(x::xs).length:=Nat.mod_lt _ (by simp);have go:wpAny (model prog w) A (match (x :: xs)[k % (x :: xs).length]? with
   |some y=>do
    let ys <- drawOrder n ((x::xs).eraseIdx (k % (x::xs).length))
    pure (y::ys)
   | none=>unsupported "internal:drawOrder") Q E { s with drawn:=s.drawn.bump .order }:=by
   rw[az dF];refine aa (Es n _ _ _ (by rw[mI dF];simp at e ⊢;omega) λys d hp=>ai ?_);exact h _ d ((List.Perm.cons _ hp).trans (Uy dF))
  exact go
theorem Dw(hr:qb w es t pl r):(tf w a es ep pl r).Perm (es.toList.map (·.2)):=by
 cases r with
 |text=>exact(zg _ es).map _
 |plain=>exact mJ _
 |drawn =>
  refine(hr.2.map _).trans ?_;have:(List.range es.size).map (λj=>(es.getD j (0,.none)).2)=es.toList.map (·.2):=by
   apply ZA
   ·simp
   ·intro i h1 h2;simp at h1;simp[Array.getD,h1]
  rw[this]
theorem Lies.ty(hL:Lies s.heap a es ep t):s.TypeIs (.ref a) "set":=let ⟨o,e,c,_⟩:=hL.at_;⟨o,e,c⟩
theorem X'(hL:Lies s.heap a es ep t)(hw:Well (Led w) t)(hz:es.size<=10000)(h:∀r pl b f I h' d',qb w es t pl r->A5 h' I a f 0 es.size ep->M3 h' t b pl 0 f r->b≠I->(b=a\/s.heap.objs.size<=b)->(∀c o,s.heap.get? c=some o->h'.get? c=some o)->s.heap.objs.size<=I->s.heap.objs.size<=h'.objs.size->Q (.ref I) { s with heap:=h',drawn:=d' }) :
  wpAny (model prog w) A (pyIter (.ref a)) Q E s:=by
 obtain⟨o,ho,xn,hd⟩:=hL.at_;refine mE hL.ty F.slot_set_iter (bD F.slot_set_iter hL.ty Wt ?_ (F.args_set_iter_1 _));unfold Builtin.«frozenset.__iter__»;refine aa (ai ?_);unfold Builtin.Frozenset.sizeOf;refine aa (aa (entries hL (ai ?_)));unfold setDrawn;refine aa (aa (cb ho hd hL.fit ?_));refine aa (tF (ai ?_));have dF:=aq ho;have fin:∀(r:Rd) (f:Value) (b:Addr) (pl:List Nat) (h1:Heap) (d1:Drawn),qb w es t pl r->(∀h',(∀c o,h1.get? c=some o->h'.get? c=some o)->M3 h' t b pl 0 f r)->b<h1.objs.size->(b=a\/s.heap.objs.size<=b)->(∀c o,s.heap.get? c=some o->h1.get? c=some o)->s.heap.objs.size<=h1.objs.size ->
   wpAny (model prog w) A.in1 (do
    let e <- setEpoch a
    ret (<- newFields "set_iterator" [f,rawInt 0,.ref a,rawInt es.size,rawInt e])) (λfin s'=>∃ v,fin=Fin.done (Flow.ret v)/\∃ T' r,s'.TypeIs v T'/\typeLookup (.type T') "__next__"=pure (some r)/\Q v s') E { s with heap:=h1,drawn:=d1 }:=λr f b pl h1 d1 hr hf hb IL he hsz=>by
  have mq:Lies h1 a es ep t:=hL.at λo e=>he a o e;obtain⟨o1,Ij,_,IG⟩:=mq.at_;unfold setEpoch;refine aa (aa (cb (s:={ s with heap:=h1,drawn:=d1 }) Ij IG mq.fit (ai ?_)));refine aa (bz (ai ⟨_,rfl,"set_iterator",_,⟨_,au _ rfl,rfl⟩,w5.lookup,?_⟩));refine h r pl b f h1.objs.size _ d1 hr ⟨_,au _ rfl,rfl,rfl⟩ (hf _ λc o e=>ah _ e) (aE hb) IL (λc o e=>ah _ (he c o e)) hsz (by rw[gn];exact Yy hsz)
 have e0:s={ s with heap:=s.heap,drawn:=s.drawn }:=rfl;cases hT:w.params.followText "set-order" with
 |true =>
  dsimp only[Bool.not_true,Bool.false_and];rw[aD (by simp)];refine aa (ai ?_);rw[e0];exact fin .text (rawInt 0) a [] s.heap s.drawn hT (λh' _=>⟨0,rfl⟩) dF (.inl rfl) (λc o e=>e) (aj _)
 |false =>
  show wpAny _ _ (if(!false&&(!t.plain&&decide (es.size>1)))=true then _ else _ ) _ _ _;by_cases hp:t.plain=true\/es.size<=1
  ·rw[aD (by rcases hp with e|e<;>simp[e])];refine aa (ai ?_);rw[e0];refine fin .plain (rawInt 0) a [] s.heap s.drawn ⟨hT,hp,?_⟩ (λh' _=>rfl) dF (.inl rfl) (λc o e=>e) (aj _);have:Led w=true:=by unfold Led;rw[hT];rfl
   rw[<- this];exact hw
  ·have h1:t.plain=false:=by cases hq:t.plain with|true=>exact absurd (.inl hq) hp|false=>rfl
   have h2:¬es.size<=1:=λz=>hp (.inr z);rw[aK (by simp[h1];omega)];refine aa (Es _ _ _ _ (Yz).symm λys d hy=>?_);have hl:ys.length=es.size:=by rw[hy.length_eq];simp
   refine aa (bz ?_ (by show(List.map _ ys).toArray.size<=sizeLine;rw[av,ay,hl];exact aI hz (by decide)));refine fin .drawn (.ref s.heap.objs.size) s.heap.objs.size ys _ d ⟨hT,hy⟩ (λh' hk=>⟨rfl,_,_,hk _ _ (au _ rfl),rfl,rfl⟩) (by rw[gn];exact dA _) (.inr (aj _)) (λc o e=>ah _ e) (by rw[gn];exact fe _)
theorem UJ(hh:A.handled=none)(hr:qb w es t pl r)(eR:b≠I)(Il:a≠I) :
  Walks prog w A I [I,a,b] [I] es.size (λi v=>(tf w a es ep pl r)[i]?=some v) (λi h=>Lies h a es ep t/\∃f,A5 h I a f i es.size ep/\M3 h t b pl i f r) where
 sub:=λc hc=>by simp at hc;simp[hc]
 frame:=λi h h' st hk=>by
  obtain⟨hL,f,hi,hf⟩:=st;refine⟨hL.at λo e=>hk a (by simp) o e,f,hi.at λo e=>hk I (by simp) o e,?_⟩;cases r with
  |text=>exact hf
  |plain=>exact hf
  |drawn =>
   obtain⟨e1,o,e,h1,h2⟩:=hf;exact⟨e1,o,e,hk b (by simp) o h1,h2⟩
 item:=λi s Q E hi st hQ=>by
  obtain⟨hL,f,hI,hf⟩:=st;exact next_item hL hr hI hf eR hi λv h' f' hv h1 h2 h3=>hQ v h' s.toks hv ⟨hL.at λo e=>by rw[h3.2 a Il];exact e,f',h1,h2⟩ λc o hc e=>h3.extBut c o (λz=>hc (by simp[z])) e
 done:=λs Q E st hQ=>by
  obtain⟨hL,f,hI,hf⟩:=st;exact next_end hh hL hr hI hf eR λh' he=>hQ h' s.toks λc o hc e=>he c o (λz=>hc (by simp[z])) e
 self:=λi s Q E st hQ=>by
  obtain⟨hL,f,hI,hf⟩:=st;refine mE hI.ty Fe (bD Fe hI.ty VQ ?_ (Wl _));exact aa (ai (ai ⟨_,rfl,"set_iterator",_,hI.ty,w5.lookup,hQ⟩))
theorem Wv:typeLookup (.type "set") "__len__"=pure (some (.builtin "set.__len__")):=by rw[fP,dz];kernel_rfl
theorem Wi(hh:A.handled=none)(hL:Lies s.heap a es ep t)(hw:Well (Led w) t)(hz:es.size<=10000){Q:List Value->Shared->Prop}(h:∀(vs:List Value) h' d' iC,vs.Perm (es.toList.map (·.2))->(∀c o,s.heap.get? c=some o->h'.get? c=some o)->s.heap.objs.size<=h'.objs.size->s.toks<=iC->Q vs { s with heap:=h',drawn:=d',toks:=iC }) :
  wpAny (model prog w) A (collect (.ref a)) Q E s:=by
 have dF:a<s.heap.objs.size:=let ⟨o,ho,_⟩:=hL.at_;aq ho
 unfold collect;refine aa (vU (cS F.entry_proto_collect ?_));rw[cz F.plain_proto_collect _];show wpAny _ A.in1 (newList [] >>= λl=>again (.builtin "list.__iadd__" ⟨[l,.ref a],[]⟩)) _ _ s;refine aa (bz ?_);refine ai ⟨fF gS _,cS F.entry_list_iadd ?_⟩;rw[cz gS _];have mq:Lies (s.heap.push { cls:=.type "list",data:=.seq ([]:List Value).toArray }) a es ep t:=hL.at λo e=>ah _ e;have xI:(s.heap.push { cls:=.type "list",data:=.seq ([]:List Value).toArray }).get? s.heap.objs.size=some { cls:=.type "list",data:=.seq ([]:List Value).toArray }:=au _ rfl;have eR:s.heap.objs.size≠a:=bp dF;have h1:Builtin.List.listSameRef (.ref s.heap.objs.size) (.ref a)=false:=by simp[Builtin.List.listSameRef,eR]
 show wpAny _ A.in1 (Builtin.List.listExtendWith (.ref s.heap.objs.size) (.ref a) (.ref s.heap.objs.size)) _ _ _;unfold Builtin.List.listExtendWith;refine aa (cU (Lies.ty (s:={ s with heap:=_ }) mq) ?_);rw[aD (by rw[h1];decide)];refine aa (X' (s:={ s with heap:=_ }) mq hw hz λr pl b f I h2 d2 hr hI hf hb II he xK Zg=>?_);have mZ:Lies h2 a es ep t:=mq.at λo e=>he a o e;have nL:=he _ _ xI;refine aa (bj ?_);unfold Builtin.List.listLengthHint;refine aa (wpAny_specialOf (Lies.ty (s:={ s with heap:=h2,drawn:=d2 }) mZ) Wv ?_);generalize rQ:("set.__len__":String)=wQ;dsimp only;rw[show splitId wQ=some ("set","__len__") from by subst rQ;decide +kernel];dsimp only;refine aa (fB (b:=true) (Lies.ty (s:={ s with heap:=h2,drawn:=d2 }) mZ) (by rw[fb];kernel_rfl) ?_);rw[aD (by decide)];subst rQ;rw[aK (by decide +kernel)];refine aa (cU (Lies.ty (s:={ s with heap:=h2,drawn:=d2 }) mZ) ?_);refine ai ?_;rw[aK (by decide +kernel)];refine aa (eM ?_);refine aa ?_;show wpAny _ A.in1 (updateSeq s.heap.objs.size (·.push .none) >>= λ_=>updateSeq s.heap.objs.size (·.pop)) _ _ _;refine aa (ja (s:={ s with heap:=h2,drawn:=d2 }) nL rfl ?_);have sd:=aW (Obj.mapSeq (·.push Value.none)) nL rfl;refine ja (s:={ s with heap:=_,drawn:=d2 }) sd rfl ?_;have xH:=aW (Obj.mapSeq (·.pop)) sd rfl;have qO:∀c o,c≠s.heap.objs.size->h2.get? c=some o->((h2.update s.heap.objs.size (Obj.mapSeq (·.push Value.none))).update s.heap.objs.size (Obj.mapSeq (·.pop))).get? c=some o :=
  λc o hc e=>(bR _ _ (bg hc)).trans ((bR _ _ (bg hc)).trans e)
 have jX:s.heap.objs.size<(s.heap.push { cls:=.type "list",data:=.seq ([]:List Value).toArray }).objs.size:=by rw[gn];exact dA _
 have IT:I≠s.heap.objs.size:=bp (ak jX xK);have Zb:b≠s.heap.objs.size:=by
  rcases II with z|z
  ·rw[z];exact bg eR
  ·exact bp (ak jX z)
 have W:=(UJ (prog:=prog) (w:=w) (A:=A.in1) (a:=a) (b:=b) (I:=I) (es:=es) (ep:=ep) (t:=t) (pl:=pl) hh hr hb (aE (ak (bW dF jX) xK))).toS;have st:Lies h2 a es ep t/\∃f,A5 h2 I a f 0 es.size ep/\M3 h2 t b pl 0 f r:=⟨mZ,f,hI,hf⟩
 have iP:=W.frame 0 ({ s with heap:=h2,drawn:=d2 }:Shared) _ s.toks st (aj _) λc hc o e=>qO c o (λz=>by simp at hc;rcases hc with y|y|y<;>simp_all) e;refine ai ⟨fF F.plain_extend_loop _,codeAny_extend_loopS W (aI hz (by decide)) _ (λz=>by simp at z;rcases z with y|y|y<;>simp_all) _ es.size 0 _ _ _ rfl (bX _) iP xH (ItemsOf.nil _) λs' pF c' hm ka gO=>?_⟩;show wpAny _ A (load s.heap.objs.size >>= _) _ _ s';refine aa (wpAny_load ka ?_);refine ai ?_;have eS:s'={ s with heap:=s'.heap,drawn:=d2,toks:=s'.toks }:=by
  obtain⟨fz,g',d',iC,oC⟩:=s';have m1:g'=s.gens:=hm.gens;have m2:d'=d2:=hm.drawn;have m3:oC=s.os:=hm.os;subst m1;subst m2;subst m3
  rfl
 have eo:pF.toList=tf w a es ep pl r:=by
  have l1:(tf w a es ep pl r).length=es.size:=by rw[(Dw hr).length_eq];simp
  apply ZA
  ·rw[l1];simpa using gO.1
  ·intro i h1 h2;have:=gO.2 i pF.toList[i] (by simp at h1 ⊢);dsimp only at this;rw[az h2] at this;exact(aB this).symm
 rw[eo,eS];refine h _ _ d2 s'.toks (Dw hr) (λc o e=>?_) (cL (aq ka)) hm.toks;have hc:c<s.heap.objs.size:=aq e;have n1:c≠s.heap.objs.size:=aE hc;have n2:c≠I:=aE (ak (bW hc jX) xK);exact hm.heap c o (by simp[n1,n2]) (qO c o n1 (he c o (ah _ e)))
theorem Vz(hh:A.handled=none)(hS:m5 prog w s.heap a ks)(xP:ks.length<64)(h:∀(S:Addr) (vs:List Value) (ns:List Int) e h' d' iC,IntsAre vs ns->ns.Perm ks->ns.Pairwise (·<=·)->h'.get? S=some (seqObj "list" vs.toArray e)->s.heap.objs.size<=S->(∀c o,s.heap.get? c=some o->h'.get? c=some o)->s.toks<=iC->Q (.ref S) { s with heap:=h',drawn:=d',toks:=iC }) :
  wpAny (model prog w) A (call (.builtin "sorted") [.ref a]) Q E s:=by
 obtain⟨o,es,ep,t,ho,hx,hd,lN,hp,hn,hb,hf,hw⟩:=hS;have hL:Lies s.heap a es ep t:=⟨⟨o,ho,hx.1,hd⟩,hf⟩
 have hz:es.size=ks.length:=by rw[<- hp.length_eq];simp
 refine gK kind_sorted plain_sorted entry_sorted (args_sorted1 _) ?_;unfold Builtin.«sorted»;refine aa (m:=checkCount "sorted" 1 1 _) (ai ?_);refine aa (Wi (A:=A.in1) hh hL hw (by omega) λvs h1 d1 ou hv he jX pR=>?_);have hI:IntsAre vs (vs.map toI):=by
  have all:∀v∈vs,∃tk,v=.int (toI v) tk:=λv rq=>by
   obtain⟨e,oO,rfl⟩:=aC.mp (hv.mem_iff.mp rq);obtain⟨tk,h1,_⟩:=vA lN oO;exact⟨tk,h1⟩
  clear hv
  induction vs with
  |nil=>exact .nil
  |cons v r ih =>
   obtain⟨tk,e⟩:=all v (by simp);have:=IntsAre.cons (toI v) tk (ih λu hu=>all u (by simp[hu]));rw[<- e] at this;exact this
 have hk:(vs.map toI).Perm ks:=by
  refine(hv.map toI).trans ?_;rw[cB];exact hp
 have hl:vs.length<64:=by rw[hv.length_eq];simp;omega
 refine aa (GU (s:={ s with heap:=h1,drawn:=d1,toks:=ou }) ?_);have kz:(h1.push (seqObj "list" vs.toArray 0)).get? h1.objs.size=some (seqObj "list" vs.toArray 0):=au _ rfl;refine aa (bj (bD (s:={ s with heap:=h1.push (seqObj "list" vs.toArray 0),drawn:=d1,toks:=ou }) slot_list_sort ⟨_,kz,rfl⟩ entry_list_sort (list_sort_tree kz hI hl λout iS a1 a2 a3=>⟨_,rfl,?_⟩) (args_list_sort _)));obtain⟨e,oO⟩:=sortedHeap_at (vs:=vs) (out:=out) kz;refine ai ⟨_,rfl,h h1.objs.size out.toList iS e _ d1 ou a1 (a2.trans hk) a3 oO jX (λc o' e'=>?_) pR⟩;have hc:=aq (he c o' e');rw[sortedHeap_old (aE hc) (by rw[gn];exact jH hc)];exact ah _ (he c o' e')
def f6(ks xs:List Int):List Int:=xs.foldl x6 ks
theorem K8:∀(xs ks:List Int),(f6 ks xs).length<=ks.length+xs.length
 |[],ks=>by simp[f6]
 |x::xs,ks=>by
  have:=K8 xs (x6 ks x);have h2:=WB ks x;show(f6 (x6 ks x) xs).length<=_;simp only[List.length_cons];omega
theorem ED:∀(xs ks:List Int) (k:Int),k∈f6 ks xs↔k∈ks\/k∈xs
 |[],ks,k=>by simp[f6]
 |x::xs,ks,k=>by
  show k∈f6 (x6 ks x) xs↔_;rw[ED xs];unfold x6;split
  ·rename_i h;constructor
   ·rintro(a|a)
    ·exact .inl a
    ·exact .inr (by simp[a])
   ·rintro(a|a)
    ·exact .inl a
    ·rcases aw.mp a with rfl|b
     ·exact .inl h
     ·exact .inr b
  ·simp[or_assoc]
theorem UZ:Well (Led w) (SetTable.fresh 0 0 (Led w)):=⟨by simp[jD,SetTable.fresh],rfl,rfl⟩
theorem DS(e:h.get? a=some { cls:=.type "set",dict:=none,data:=.set #[] 0 (.fresh 0 0 (Led w)) }):m5 prog w h a [] :=
 ⟨_,#[],0,_,e,⟨rfl,rfl,rfl⟩,rfl,(by intro e he;simp at he),by simp,by simp,by decide,by rfl,UZ⟩
theorem Yn{R:Result->Shared->Prop}{fp wr:List Addr}{G:Array GenState->Array GenState->Prop}{P:Nat->Value->Prop}{St:Nat->Shared->Prop}(W:WalksS prog w A.in1 I fp wr G n P St)(BH:a∉fp)(hn:n=ns.length)(hv:∀i v,P i v->∃tk,v=.int (ns.getD i 0) tk)(hb:n+1<scanBound):∀(k i:Nat) (s:Shared),i+k=n->St i s->m5 prog w s.heap a (f6 [] (ns.take i)) ->
   (∀s',Moved (a::wr) G s s'->m5 prog w s'.heap a (f6 [] ns)->R (.ok (.ret .none)) s')->codeAny (model prog w) A (.builtin "set.update.loop" ⟨[.ref a,.ref I],[]⟩) R s:=by
 have hw:a∉wr:=λh=>BH (W.sub _ h);have qJ:∀b∈wr,b∈a::wr:=λb hb=>by simp[hb]
 intro k
 induction k with
 |zero =>
  intro i s e st hS hR;obtain rfl:i=n:=by omega
  refine cS iK ?_;rw[cz dH _];unfold Builtin.«set.update.loop»;refine aa (W.done s _ _ st λs' m=>ai (hR s' (m.mono qJ) (m5.at ?_ λo e=>m.heap a o hw e)));rw[hn,ki] at hS;exact hS
 |succ k ih =>
  intro i s e st hS hR;have dF:i<ns.length:=by omega
  refine cS iK ?_;rw[cz dH _];unfold Builtin.«set.update.loop»;refine aa (W.item i s _ _ (by omega) st λv s' hP ko m=>?_);obtain⟨tk,rfl⟩:=hv i v hP;have ka:=m5.at hS λo e=>m.heap a o hw e;have hl:=K8 (ns.take i) [];rw[cg] at hl;simp only[List.length_nil] at hl;refine aa (bj ?_);unfold setAdd;refine bj (aa ((intKind prog w).pyHash (k:=ns.getD i 0) (dO _ _ _ _) ?_));refine Cy (s:={ s' with toks:=s'.toks+1 }) ka (by omega) λh' bb sb nL=>?_;have e2:x6 (f6 [] (ns.take i)) (ns.getD i 0)=f6 [] (ns.take (i+1)):=by
   unfold f6;rw[fH,YB,az dF];simp[List.getD,dF]
  rw[e2] at nL;refine ai ⟨fF dH _,ih (i+1) _ (by omega) (W.frame _ s' _ _ ko (fe _) λb hb o e=>by rw[sb.2 b λz=>BH (z▸hb)];exact e) nL λs2 m2 h2=>?_⟩;exact hR s2 (Moved.trans W.gtrans ((m.mono qJ).then_heap (fe _) λb o hb e=>by rw[sb.2 b λz=>hb (by rw[z];simp)];exact e) m2) h2
noncomputable abbrev p8(w:World):Obj:={ cls:=.type "set",dict:=none,data:=.set #[] 0 (.fresh 0 0 (Led w)) }
theorem Gb(h:Q (.ref s.heap.objs.size) { s with heap:=s.heap.push (p8 w) }):wpAny (model prog w) A (newSet (.type "set")) Q E s:=by
 unfold newSet;refine aa (tF ?_);exact bz h (bX _)
theorem WJ(x:Value)(h:Q (.ref s.heap.objs.size) { s with heap:=s.heap.push (p8 w) }):codeAny (model prog w) A (.call (.builtin "set.__new__") ⟨[.type "set",x],[]⟩) (wants Q E) s:=by
 refine qw (?_:wpAny _ A.in1 (do
  checkBuiltinCall "set.__new__" ⟨[.type "set",x],[]⟩
  again (.builtin "set.__new__" ⟨[.type "set",x],[]⟩)) _ _ s)
 refine aa (dN (F.newCall_set_1 x) (ai ⟨fF F.plain_set_new _,?_⟩));refine cS F.entry_set_new ?_;rw[cz F.plain_set_new _];unfold Builtin.«set.__new__»;have sub:=sub_set_self;refine aa (m:=Builtin.Frozenset.newClass "set" _) ?_;unfold Builtin.Frozenset.newClass;dsimp only;refine aa (dN (a:=true) (by first|rfl|(simp[isType];rfl)) ?_);rw[aD (by decide)];refine aa (dN sub ?_);rw[aD (by decide)];refine ai ?_;exact aa (Gb (ai h))
theorem Y4{vs:List Value}(h:IntsAre vs ns):vs.length=ns.length:=by
 induction h with
 |nil=>rfl
 |cons n t r ih=>simp[ih]
def tO(h:Heap)(l:Addr)(items:Array Value):Prop:=h.IsList l items\/h.IsTuple l items
theorem tO.lt(x:tO h l items):l<h.objs.size:=by
 rcases x with⟨_,e,_⟩|⟨_,e,_⟩<;>exact aq e
theorem WY{Q:Fin->Shared->Prop}(hh:A.handled=none)(hS:s.heap.get? a=some (p8 w))(hl:tO s.heap l items)(hi:IntsAre items.toList ns)(hb:items.size+1<scanBound)(eR:a≠l)(h:∀h' tk,m5 prog w h' a (f6 [] ns)->(∀b o,b≠a->s.heap.get? b=some o->h'.get? b=some o)->s.toks<=tk->wpAny (model prog w) A (ret .none) Q E { s with heap:=h',toks:=tk }) :
  wpAny (model prog w) A (Builtin.«set.__init__» ⟨[.ref a,.ref l],[]⟩) Q E s:=by
 have hT:s.TypeIs (.ref a) "set":=⟨_,hS,rfl⟩
 have Zc:Lies s.heap a #[] 0 (SetTable.fresh 0 0 (Led w)):=⟨⟨_,hS,rfl,rfl⟩,rfl⟩
 have dF:=hl.lt;have Bt:l≠s.heap.objs.size:=aE dF;unfold Builtin.«set.__init__» noKeywords;dsimp only;refine aa (dN (a:=()) rfl ?_);have nm:∀{Q':String->Shared->Prop},(∀x,Q' x s)->wpAny (model prog w) A (typeNameOfCut 200 (.ref a)) Q' E s:=λ{Q'} q=>by
  unfold typeNameOfCut shownTypeOf;refine aa (aa (cU hT ?_));rw[aD (by decide)];refine ai (dN (a:="set") ?_ (q _));unfold typeNameCut;dsimp only
  first|(unfold typeName;rw[find?_eq_fast];kernel_rfl)|kernel_rfl
 refine aa (nm λx=>?_);refine aa (m:=checkCount _ 0 1 _) (ai ?_);refine aa (m:=Builtin.Frozenset.addrOf _) (ai ?_);unfold setUsed;refine aa (aa (cb hS rfl rfl (ai ?_)));rw[aD (by show ¬((SetTable.fill (SetTable.fresh 0 0 (Led w)) != 0)=true);unfold SetTable.fill;simp[SetTable.fresh])];unfold Builtin.Frozenset.updateFrom Builtin.Frozenset.isAnySet;obtain⟨c,pX,xG,it,hit,Bw,St,W,ei⟩:∃c:String,(c="list"\/c="tuple")/\s.TypeIs (.ref l) c/\∃it:Obj,(∀Q':Value->Shared->Prop,Q' (.ref s.heap.objs.size) { s with heap:=s.heap.push it }->wpAny (model prog w) A (pyIter (.ref l)) Q' E s) /\
   (∀b o,s.heap.get? b=some o->(s.heap.push it).get? b=some o)/\∃St:Nat->Shared->Prop,WalksS prog w A.in1 s.heap.objs.size [s.heap.objs.size,l] [s.heap.objs.size] (λa b=>b=a) items.size (λi v=>items[i]?=some v) St/\St 0 { s with heap:=s.heap.push it }:=by
  rcases hl with hl|hl
  ·obtain⟨o,ho,hc,_⟩:=id hl;exact⟨"list",.inl rfl,⟨o,ho,hc⟩,_,λQ' q=>gP hl q,λb o e=>ah _ e,_,(Walks.list (A:=A.in1) hh _ l Bt items).toS,⟨⟨_,au _ rfl,rfl,rfl⟩,hl.push _⟩⟩
  ·obtain⟨o,ho,hc,_⟩:=id hl;exact⟨"tuple",.inr rfl,⟨o,ho,hc⟩,_,λQ' q=>wpAny_pyIter_tuple hl q,λb o e=>ah _ e,_,(Walks.tuple (A:=A.in1) hh _ l Bt items).toS,⟨⟨_,au _ rfl,rfl,rfl⟩,hl.push _⟩⟩
 refine aa (aa (aa (fB (b:=false) xG (by rcases pX with rfl|rfl<;>(rw[fb];kernel_rfl)) ?_)));show wpAny (model prog w) A (isInstance (Value.ref l) (Value.type "frozenset")) _ _ _;refine fB (b:=false) xG (by rcases pX with rfl|rfl<;>(rw[fb];kernel_rfl)) ?_;rw[aD (by decide)];refine aa (cU xG ?_);rw[aD (by rcases pX with rfl|rfl<;>decide)];refine aa (hit _ ?_);refine aa (vU ?_);have IP:a<s.heap.objs.size:=aq hS;have hsz:items.size=ns.length:=by rw[<- bP];exact Y4 hi
 refine Yn (a:=a) (ns:=ns) W (by simp only[List.mem_cons,List.not_mem_nil,or_false,not_or];exact⟨aE IP,eR⟩) hsz (λi v hv=>IntsAre.int_at hi i v (by rw[eQ];exact hv)) hb items.size 0 _ (by omega)
  ei (DS (Bw _ _ hS)) λs' m ka=>?_
 have eS:s'={ s with heap:=s'.heap,toks:=s'.toks }:=by
  obtain⟨fz,g',d',iC,oC⟩:=s';have m1:g'=s.gens:=m.gens;have m2:d'=s.drawn:=m.drawn;have m3:oC=s.os:=m.os;subst m1;subst m2;subst m3
  rfl
 rw[eS];refine ai (h _ _ ka (λb o hb e=>?_) m.toks);exact m.heap b o (by simp only[List.mem_cons,List.not_mem_nil,or_false,not_or];exact⟨hb,aE (aq e)⟩) (Bw _ _ e)
theorem Gx(hh:A.handled=none)(hl:tO s.heap l items)(hi:IntsAre items.toList ns)(hb:items.size+1<scanBound)(h:∀h' tk,m5 prog w h' s.heap.objs.size (f6 [] ns)->(∀b o,s.heap.get? b=some o->h'.get? b=some o)->s.toks<=tk->Q (.ref s.heap.objs.size) { s with heap:=h',toks:=tk }) :
  wpAny (model prog w) A (call (.type "set") [.ref l]) Q E s:=by
 have cs:=F.called_set;obtain⟨_,_,y1⟩:=cs.mro;have y2:=cs.made;have y3:=cs.sub;have y4:=cs.notType;have y5:=cs.canCreate;have y6:=F.typeCall_set_1 (.ref l);refine wpAny_call (qw (?_:wpAny _ _ (callAny (.type "set") _) _ _ _));refine ai ⟨Code.quiet_builtin _ (by decide +kernel),cS F.entry_type_call ?_⟩;rw[Around.under_plain (weight_type_call_type "set" [.ref l] []) rfl]
 repeat (any_goals (first|assumption|wp_step))
 refine fZ (WJ (.ref l) (E:=E) (Q:=λv s1=>v=.ref s.heap.objs.size/\s1={ s with heap:=s.heap.push (p8 w) }) ⟨rfl,rfl⟩) ?_;rintro(e|fl) s1 hr
 ·exact hr
 cases fl with
 |next=>exact hr
 |brk=>exact hr
 |cont=>exact hr
 |ret v =>
 obtain⟨rfl,rfl⟩:=hr;have hS:(s.heap.push (p8 w)).get? s.heap.objs.size=some (p8 w):=au _ rfl;have hT:Shared.TypeIs { s with heap:=s.heap.push (p8 w) } (.ref s.heap.objs.size) "set":=⟨_,hS,rfl⟩
 have y7:=cs.init.lookup;have y8:=cs.init.bind (.ref s.heap.objs.size)
 repeat (any_goals (first|assumption|wp_step))
 refine fZ (codeAny_call_builtin (R:=wants (λv s2=>v=.none/\∃h' tk,s2={ s with heap:=h',toks:=tk }/\m5 prog w h' s.heap.objs.size (f6 [] ns)/\(∀b o,s.heap.get? b=some o->h'.get? b=some o)/\s.toks<=tk) E) cs.init.plain F.entry_set_init (check_set_init_1 hT ?_)) ?_
 ·have Ir:tO (s.heap.push (p8 w)) l items:=hl.imp (·.push _) (·.push _);have Ip:=hl.lt;refine WY (s:={ s with heap:=s.heap.push (p8 w) }) (by simp[hh]) hS Ir hi hb (bp Ip) λh' tk h1 h2 h3=>ai ⟨rfl,h',tk,rfl,h1,λb o e=>h2 b o (aE (aq e)) (ah _ e),h3⟩
 ·rintro(e|fl) s2 hr
  ·exact hr
  cases fl with
  |next=>exact hr
  |brk=>exact hr
  |cont=>exact hr
  |ret v =>
  obtain⟨rfl,h',tk,rfl,h1,h2,h3⟩:=hr
  repeat (any_goals (first|assumption|wp_step))
  exact h _ _ h1 h2 h3
end ST
namespace L2
open PySem PySem.Spec PyProof.Rows
def pC(X:Cx)(a:Addr)(ks:List Int):HO:=.ext λh=>ST.m5 X.prog X.w h a ks
def u9(ns:List Int):List Int:=(ST.f6 [] ns).mergeSort (λa b=>decide (a<=b))
theorem I9:∀{a b:List Int},a.Perm b->a.Pairwise (·<=·)->b.Pairwise (·<=·)->a=b
 |[],b,h,_,_=>by rw[List.nil_perm.mp h]
 |x::a,[],h,_,_=>absurd h.length_eq (by simp)
 |x::a,y::b,h,h1,h2=>by
  rw[cC] at h1 h2;have e:x=y:=by
   have m1:=h.mem_iff (a:=y);have m2:=h.mem_iff (a:=x);simp only[List.mem_cons,true_or,true_iff,iff_true] at m1 m2;rcases m1 with z|z
   ·exact z.symm
   ·rcases m2 with z'|z'
    ·exact z'
    ·have:=h1.1 y z;have:=h2.1 x z';omega
  subst e;rw[I9 (h.cons_inv) h1.2 h2.2]
theorem W0(ns:List Int):(u9 ns).Pairwise (·<=·):=by
 have:=pM (le:=λa b:Int=>decide (a<=b)) (λa b c h1 h2=>by simp at *;omega) (λa b=>by simp;omega) (ST.f6 [] ns);exact this.imp λh=>by simpa using h
theorem O3(ns:List Int):(u9 ns).Perm (ST.f6 [] ns):=AD _ _
theorem Eh(ns:List Int):(u9 ns).length<=ns.length:=by
 rw[(O3 ns).length_eq];have:=ST.K8 ns [];simpa using this
section
variable{X:Cx}{pins:List (Addr×Obj)}{Z:St}{H:Hp}{s:Shared}
theorem Inv.draw(I:Inv X pins Z H s)(d:Drawn):Inv X pins Z H { s with drawn:=d } :=
 I.step (g':=s.gens) (t':=s.toks) (d':=d) (ch:=[]) (by simp) (λb o _ _ _ e _=>e) (λb o _ _ _ e _=>⟨o.slots,e⟩) (λb o _ _ e=>e) (λb o _ e=>⟨o,e⟩) (λ_ _ e=>e) (λ_ _ _ e=>e) (λb ps e=>⟨#[],by simp[e]⟩) (λm hm=>hm) I.br I.bare
theorem Gs{h:Heap}{a:Addr}{ks:List Int}(x:ST.m5 X.prog X.w h a ks):j4 X.prog X.w H h a (pC X a ks) :=
 ⟨x,by obtain⟨o,_,_,_,e,_⟩:=x;exact⟨o,e⟩,λh1 h2 y k=>y.at k⟩
theorem V9{ns:List Int}{vs:List Value}(h:IntsAre vs ns):Vals (ns.map V.int) vs:=by
 induction h with
 |nil=>exact .nil
 |cons n t r ih=>exact .cons ⟨t,rfl⟩ ih
theorem E8:∀{ns:List Int} {vs:List Value},Vals (ns.map V.int) vs->IntsAre vs ns
 |[],_,h=>by cases h;exact .nil
 |n::ns,_,h=>by
  cases h with
  |cons r rr =>
   obtain⟨t,rfl⟩:=r;exact .cons n t (E8 rr)
theorem Fb(hc:X.calm=true):j5 X (.type "set") (λxs H Q=>∃a ns,xs=[.ref a]/\eT X.K H a (ns.map V.int)/\ns.length<60/\∀p,H p=none->Q (.ref p) (upd H p (pC X p (ST.f6 [] ns)))):=by
 intro pins s Z H xs us Q I r h;obtain⟨a,ns,rfl,hq,hl,q⟩:=h;cases r with
 |cons r rr =>
 cases rr;cases r;obtain⟨aL,rv,p,hz⟩:=I.list hq;have hI:=E8 rv;have hlen:=ST.Y4 hI;refine ST.Gx (ns:=ns) (I.ok.hd hc) (.inl p.isList) (by simpa using hI) (by rw[av,hlen];exact ak (Zx hl) (by decide)) λh' tk hS hk _=>?_;exact⟨.ref _,_,I.laid (a:=s.heap.objs.size) (t':=tk) hk (aj _) (Gs hS),rfl,q _ (I.br.fresh (aj _))⟩
theorem T4(hc:X.calm=true):j5 X (.builtin "sorted") (λxs H Q=>∃a ns,xs=[.ref a]/\H a=some (pC X a (ST.f6 [] ns))/\ns.length<60/\∀p,H p=none->Q (.ref p) (upd H p (.lst ((u9 ns).map V.int)))):=by
 intro pins s Z H xs us Q I r h;obtain⟨a,ns,rfl,ha,hl,q⟩:=h;cases r with
 |cons r rr =>
 cases rr;cases r;have hS:ST.m5 X.prog X.w s.heap a (ST.f6 [] ns):=(I.br a _ ha).1;have hn:=ST.K8 ns [];simp only[List.length_nil] at hn;refine ST.Vz (I.ok.hd hc) hS (by omega) λS vs iS e h' d' iC h1 h2 h3 h4 h5 h6 _=>?_;have e1:iS=u9 ns:=I9 (h2.trans (O3 ns).symm) h3 (W0 ns);subst e1;have hz:=Eh ns;exact⟨.ref S,_,(I.laid (a:=S) (o:=.lst ((u9 ns).map V.int)) (t':=iC) h6 h5 ⟨by rw[ay];exact aI hz (aI (cL hl) (by decide)),vs,e,V9 h1,h4⟩).draw d',rfl,q S (I.br.fresh h5)⟩
end
end L2
namespace ST
open PySem PyProof.Rows
theorem WE{prog:Program}{w:World}{A:Around}{E:Value->Shared->Prop}{s:Shared}{a:Addr}{ks:List Int}{k:Int}{tk:Tok}{Q:Value->Shared->Prop}(hS:m5 prog w s.heap a ks)(hr:ks.length+1<scanBound)(h:∀h',Heap.SameBut a s.heap h'->m5 prog w h' a (x6 ks k)->Q .none { s with heap:=h',toks:=s.toks+1 }):wpAny (model prog w) A (call (.builtin "set.add") [.ref a,.int k tk]) Q E s:=by
 have hT:s.TypeIs (.ref a) "set":=let ⟨o,_,_,_,e,x,_⟩:=hS;⟨o,e,x.1⟩
 refine bD F.slot_set_add hT F.entry_set_add ?_ (F.args_set_add_2 _ _);have go:∀(Q':Fin->Shared->Prop),(∀h',Heap.SameBut a s.heap h'->m5 prog w h' a (x6 ks k)->wpAny (model prog w) A.in1 (ret .none) Q' E { s with heap:=h',toks:=s.toks+1 })->wpAny (model prog w) A.in1 (do let _ <- setAdd a (.int k tk);ret .none) Q' E s:=λQ' q=>by
  unfold setAdd;refine aa (bj (aa ((intKind prog w).pyHash (k:=k) (dO _ _ _ _) ?_)));exact Cy (s:={ s with toks:=s.toks+1 }) hS hr λh' b sb S2=>q h' sb S2
 unfold Builtin.«set.add» Builtin.Frozenset.oneOther;simp only[List.isEmpty_nil,bind_assoc];unfold Builtin.Frozenset.addrOf;refine aa (ai ?_)
 try dsimp only
 refine aa (ai ?_)
 try dsimp only
 exact go _ λh' sb S2=>ai ⟨_,rfl,h h' sb S2⟩
end ST
namespace L2
open PySem PySem.Spec PyProof.Rows
variable{elt iter:Expr}{ifs:List Expr}{scope:Scope}{pos:Pos}
section
variable{prog:Program}{w:World}{A:Around}{R:Result->Shared->Prop}{s:Shared}
theorem VD(elt target iter:Expr)(ifs:List Expr)(scope:Scope)(pos:Pos)(it acc:Value)(env:Env):compTurn (.SetComp elt [⟨target,iter,ifs,0⟩] scope pos) 0 it acc env=(do
      standAt iter.pos
      match <- pyNext it with
      |none=>pure (.done .next)
      |some v =>
        letOwnedTupleGo target it v
        assign target env v
        let mut ok:=true
        for c in ifs do if ok then ok <- isTrue c env (eval c env)
        if ok then(do let x <- eval elt env;standAt elt.pos;let _ <- call (.builtin "set.add") [acc,x])
        again (.compLoop (.SetComp elt [⟨target,iter,ifs,0⟩] scope pos) 0 it acc env)):=by rfl
theorem SW{target:Expr}{it acc:Value}{env:Env}(I:Nat->Shared->Prop)(turn:∀ n s,I n s->wpAny (model prog w) A (pyNext it) (λr bx=>match r with
   |none=>R (.ok .next) bx
   | some v=>wpAny (model prog w) A (letOwnedTupleGo target it v) (λ_ bx=>wpAny (model prog w) A (assign target env v) (λ_ eJ =>
     wpAny (model prog w) A (forIn ifs true λc r=>if r=true then do let ok <- isTrue c env (eval c env);pure (ForInStep.yield ok) else pure (ForInStep.yield r)) (λok cY =>
      if ok=true then wpAny (model prog w) A (eval elt env) (λx gg =>
       wpAny (model prog w) A (call (.builtin "set.add") [acc,x]) (λ_ jn=>∃ m,m < n/\I m jn) (λ_ _=>False) gg) (λ_ _=>False) cY
      else ∃ m,m < n/\I m cY) (λ_ _=>False) eJ) (λ_ _=>False) bx) (λ_ _=>False) bx) (λ_ _=>False) s)(n:Nat)(h:I n s) :
  codeAny (model prog w) A (.compLoop (.SetComp elt [⟨target,iter,ifs,0⟩] scope pos) 0 it acc env) R s:=by
 refine Zu rfl I (λn s hI=>?_) n h;show wpAny _ A ((compTurn (.SetComp elt [⟨target,iter,ifs,0⟩] scope pos) 0 it acc env).onRaise (λx=>do noteFrame x env;theTreesLotGoes x)) _ _ s;refine wpAny_noted ?_;rw[VD];refine aa (cH (aa (aV (turn n s hI) (λr bx cu=>?_) λ_ _ h'=>h'.elim)));cases r with
 |none=>exact ai cu
 |some v =>
  refine aa (aV cu (λ_ bx cu=>?_) λ_ _ h'=>h'.elim);refine aa (aV cu (λ_ eJ fT=>aa (aV fT (λok cY jt=>?_) λ_ _ h'=>h'.elim)) λ_ _ h'=>h'.elim);cases ok with
  |false=>exact wpAny_pure ⟨rfl,jt⟩
  |true =>
   exact aa (aa (aV jt (λx gg lI=>aa (cH (aa (aV lI (λ_ jn lH=>ai (ai ⟨rfl,lH⟩)) λ_ _ h'=>h'.elim)))) λ_ _ h'=>h'.elim))
theorem Vv{target:Expr}{it acc:Value}{env:Env}(h0:codeAny (model prog w) A (.compLoop (.SetComp elt [⟨target,iter,ifs,0⟩] scope pos) 0 it acc env) R s)(h:wpAny (model prog w) A (pyIter it) (λBi s'=>codeAny (model prog w) A (.compLoop (.SetComp elt [⟨target,iter,ifs,0⟩] scope pos) 0 Bi acc env) R s') (notedBy (model prog w) A env λx s'=>R (.error x) s') s) :
  codeAny (model prog w) A (.compStart (.SetComp elt [⟨target,iter,ifs,0⟩] scope pos) 0 it acc env) R s:=by
 refine qw (?_:wpAny _ _ ((compStart (.SetComp elt [⟨target,iter,ifs,0⟩] scope pos) 0 it acc env).onRaise (λx=>do noteFrame x env;standAt theWindowsPlace)) _ _ s);refine wpAny_notedAt ?_;unfold compStart;refine aa (oj (wpAny_ite ?_));split
 ·first
   |exact ai ⟨rfl,h0⟩
   |exact aa (ai (ai ⟨rfl,h0⟩))
 ·refine aa (eM ?_);exact aa (cH (aa (aV h (λBi s' h'=>ai ⟨rfl,h'⟩) λ_ _ x=>x)))
end
def V6(o:Obj):Prop:=∀v,o.data≠.cell v
def Mc(X:Cx)(wi:TI)(a9:List Nat)(n:Nat)(g:TG)(tc:TT)(te:TE):TE:=λZ H Q=>wi Z H λJ H1=>∃W:Nat->Nat->List Int->St->Hp->Prop,(∃m,W 0 m [] (o7 Z a9 n) H1)/\∀i m ys Z H,W i m ys Z H ->
 (J.stop i H/\∀p,H p=none->Q (.ref p) (upd H p (pC X p (ST.f6 [] ys)))) \/
 (J.go i H/\ys.length < 60/\∀ x H',J.mM i H x H'->g x Z H' λcj H2=>tc cj H2 λb H3 =>
  if b=true then te cj H3 λy H4=>∃ k,y=.int k/\∃ m',m' < m/\W (i + 1) m' (ys ++ [k]) cj H4 else ∃ m',m' < m/\W (i + 1) m' ys cj H3)
section
variable{X:Cx}{pins:List (Addr×Obj)}{Z:St}{H:Hp}{s:Shared}
theorem Inv.FG{D:Addr}{φ:Heap->Prop}(I:Inv X pins Z H s)(f:p9 X pins H D)(hs:X.cR.heap.objs.size<=D)(ho:j4 X.prog X.w (upd H D (.ext φ)) s.heap D (.ext φ)):Inv X pins Z (upd H D (.ext φ)) s:=by
 obtain⟨f0,f1,f2,f3,f4,f5⟩:=f;have eR:∀b o,X.cR.heap.get? b=some o->b≠D:=λb o e z=>absurd (aq e) (by rw[z];exact ji.mpr hs);have tup:∀b u,H b=some u->upd H D (.ext φ) b=some u:=λb u e=>by rw[a7 (d4 e f0)];exact e
 refine⟨I.ok,I.os,I.bare,⟨?_,?_,?_,I.base.there,?_,?_,?_⟩,I.loc,I.cell,?_,?_,?_,?_,I.len⟩
 ·exact λb o e n1 n2 n3=>I.base.keep b o e n1 n2 n3
 ·exact λb o e n1 n2 n3=>I.base.slot b o e n1 n2 n3
 ·exact λb o e n1 n2=>by rw[a7 (eR b o e)];exact I.base.free b o e n1 n2
 ·exact λb xs e=>tup _ _ (I.base.gL b xs e)
 ·exact λb o u e=>tup _ _ (I.base.gD b o u e)
 ·exact λb ps e=>by
   obtain⟨more,q⟩:=I.base.gM b ps e;exact⟨more,tup _ _ q⟩
 ·rw[a7 f1.symm];exact I.free
 ·exact λx c e=>by rw[a7 (f4 x c e)];exact I.dJ x c e
 ·intro p hp;obtain⟨p1,p2,p3⟩:=I.pin p hp;exact⟨p1,by rw[a7 (f5 p hp)];exact p2,p3⟩
 ·intro a o e;by_cases ha:a=D
  ·subst ha;rw[f9] at e;cases e;exact ho
  ·rw[a7 ha] at e;have q:=I.br a o e;refine q.P2 (λb u _ h=>h) (λb hb=>tup _ _ hb) (λb xs hb=>tup _ _ hb)
theorem Wh{tg:Expr}{N':List Str}{a9:List Nat}{cl:List (Str×Addr)}{it:Addr}{fp:List Addr}{tn:Nat->Heap->Prop}{J:It}{g:TG}{tc:TT}{te:TE}{RR:Value->Addr->Result->Shared->Prop}{E:Value->Shared->Prop}{W:Nat->Nat->List Int->St->Hp->Prop}{m0:Nat}{Q:VK}(S:cx X scope N' a9 cl)(hc:X.calm=true)(hg:∀C s H,PG (a5 X pins scope N' cl C s H fp) tg g)(ht:∀C s H,jf (a5 X pins scope N' cl C s H fp) ifs tc)(he:∀C s H,PE (a5 X pins scope N' cl C s H fp) elt te)(I:Inv X pins Z H s)(T:Turn X.prog X.w X.K tg J fp it tn)(st:tn 0 s.heap)(hf:∀b∈fp,p9 X pins H b)(w0:W 0 m0 [] (o7 Z a9 N'.length) H)(turn:∀ i m ys Z H,W i m ys Z H->(J.stop i H/\∀ p,H p=none->Q (.ref p) (upd H p (pC X p (ST.f6 [] ys)))) \/
   (J.go i H/\ys.length < 60/\∀ x H',J.mM i H x H'->g x Z H' λcj H2=>tc cj H2 λb H3 =>
    if b=true then te cj H3 λy H4=>∃ k,y=.int k/\∃ m',m' < m/\W (i + 1) m' (ys ++ [k]) cj H4 else ∃ m',m' < m/\W (i + 1) m' ys cj H3))(se:∀D C s' H' m,Inv X pins Z H' s'->Q (.ref D) H'->s'.heap.Ns C m->H' C=none->s.heap.objs.size<=C->RR (.ref D) C (.ok .next) s') :
  wpAny (model X.prog X.w) X.A (newSet (.type "set")) (λacc cY=>wpAny (model X.prog X.w) X.A (newFunctionEnv scope X.env.globals cl [] X.env.qual none .none (some X.env)) (λiY gg =>
   codeAny (model X.prog X.w) X.A (.compStart (.SetComp elt [⟨tg,iter,ifs,0⟩] scope pos) 0 (.ref it) acc { iY with scope:=relabel scope X.env }) (RR acc iY.locals) gg) E cY) E s:=by
 refine ST.Gb (N3 λcu et dh ju=>?_);dsimp only at et dh ju ⊢;generalize kc:s.heap.push (ST.p8 X.w)=H2 at et dh ju ⊢;generalize eD:s.heap.objs.size=D at *;have hC:H2.objs.size=D+1:=by rw[<- kc,cP,eD]
 generalize eC:H2.objs.size=C at *;have nN:D≠C:=by omega
 have lt:∀b o,s.heap.get? b=some o->b<D:=λb o e=>by rw[<- eD];exact aq e
 have lE:D<=C:=by omega
 have mf:∀b o,s.heap.get? b=some o->b≠C:=λb o e=>aE (ak (lt b o e) lE);have js:∀b o,s.heap.get? b=some o->b≠D:=λb o e=>aE (lt b o e);have old:∀b o,s.heap.get? b=some o->cu.get? b=some o:=λb o e=>dh b o (kc▸ah _ e);have gO:cu.get? D=some (ST.p8 X.w):=dh _ _ (by rw[<- kc,<- eD];exact au _ rfl);have fU:∀b∈fp,∃o,s.heap.get? b=some o:=λb hb=>by
  obtain⟨o,e,_⟩:=T.obj _ _ st b hb;exact⟨o,e⟩
 have nM:D∉fp:=λhm=>by
  obtain⟨o,e⟩:=fU D hm;exact js D o e rfl
 have X1:Inv (a5 X pins scope N' cl C s H fp) [] (o7 Z a9 N'.length) H { s with heap:=cu } :=
  I.Z1 S hc hf fU (by rw[eD];omega) ⟨_,et⟩ old ju
 have nB:tn 0 cu:=T.keep _ _ _ st λb _ o e=>old b o e;have sv:∀{H':Hp},(∀b∈fp,H' b=none)->∀b∈fp,p9 (a5 X pins scope N' cl C s H fp) [] H' b:=λhn b hb=>by
  obtain⟨f0,f1,f2,f3,f4,f5⟩:=hf b hb;obtain⟨o,e⟩:=fU b hb;refine⟨hn b hb,?_,?_,.inl hb,λx c q=>(M0 ju q).elim (λl z=>absurd (bW (z▸l) (ak (lt b o e) lE)) (aX _)) λq=>f4 x c (S.cin x c q),λp hp=>?_⟩
  ·exact mf b o e
  ·exact λz=>by
    rcases aw.mp (I.E1 b z) with z|z
    ·exact f1 z
    ·exact f2 z
  ·have fz:p∈X.pn++pins:=by simpa[a5] using hp
   exact f5 p fz
 have fD:∀{H':Hp},H' D=none->p9 (a5 X pins scope N' cl C s H fp) [] H' D:=λhn=>by
  refine⟨hn,nN,λz=>?_,.inr (by show s.heap.objs.size<=D;omega),λx c q=>?_,λp hp=>?_⟩
  ·exact absurd (I.pB (a:=D) (by omega)) λjO=>by
    rcases aw.mp (I.E1 D z) with z|z
    ·exact absurd I.lt (by rw[<- z,eD];exact aX _)
    ·exact jO z
  ·rcases M0 ju q with l|q
   ·exact λz=>absurd (ak (z▸l) lE) (aX _)
   ·obtain⟨v,o,e,_⟩:=I.cell x c (S.cin x c q);exact js c o e
  ·have fz:p∈X.pn++pins:=by simpa[a5] using hp
   exact js _ _ (I.pin p fz).1
 have lz:∀{H':Hp} {s':Shared} {bL:St} {oD:Obj},V6 oD->Inv (a5 X pins scope N' cl C s H fp) [] bL H' s'->H' D=none->s'.heap.get? D=some oD ->
   Inv (a5 X pins scope N' cl C s H fp) [(D,oD)] bL H' s':=λ{H' s' bL oD} gN J0 hn e=>J0.w9 λp hp=>by
  have z:p=(D,oD):=by simpa using hp
  subst z;obtain⟨f0,f1,f2,_⟩:=fD hn;exact⟨e,f0,f1,f2,gN⟩
 have iy:∀{H':Hp} {oD:Obj},(∀b∈fp,H' b=none)->∀b∈fp,p9 (a5 X pins scope N' cl C s H fp) [(D,oD)] H' b:=λ{H' oD} hn b hb=>by
  obtain⟨f0,f1,f2,f3,f4,f5⟩:=sv hn b hb;refine⟨f0,f1,f2,f3,f4,λp hp=>?_⟩;have fz:p∈(a5 X pins scope N' cl C s H fp).pn\/p=(D,oD):=by simpa using hp
  rcases fz with z|z
  ·exact f5 p (cM _ z)
  ·subst z;exact λz=>nM (by rw[show D=b from z];exact hb)
 have loop:∀cY:Shared,cY={ s with heap:=cu } ->
   codeAny (model X.prog X.w) X.A (.compLoop (.SetComp elt [⟨tg,iter,ifs,0⟩] scope pos) 0 (.ref it) (.ref D) (compEnvC scope (F0 scope cl C) C X.env)) (RR (.ref D) C) cY:=by
  rintro cY rfl;refine SW (λn s'=>∃ (i:Nat) (ys:List Int) (bL:St) (H':Hp) (oD:Obj),Inv (a5 X pins scope N' cl C s H fp) [] bL H' s'/\tn i s'.heap/\(∀ b ∈ fp,H' b=none)/\H' D=none/\ys.length <= 60/\V6 oD /\
   s'.heap.get? D=some oD/\ST.m5 X.prog X.w s'.heap D (ST.f6 [] ys)/\W i n ys bL H') ?_ m0 ⟨0,[],_,H,ST.p8 X.w,X1,nB,λb hb=>(hf b hb).1,I.br.fresh (by omega),bX _,(λv (z:Data.set _ _ _=_)=>by cases z),gO,ST.DS gO,w0⟩
  rintro n s3 ⟨i,ys,gA,H3,oD,I3,lp,lT,d3,z3,c3,o3,S3,w3⟩;have oh:=lz c3 I3 d3 o3;rcases turn i n ys gA H3 w3 with⟨stop,q⟩|⟨go,hz,step⟩
  ·refine bS (T.done (a5 X pins scope N' cl C s H fp) rfl rfl rfl rfl i _ s3 _ H3 _ oh (iy lT) lp stop) λr s4 ⟨hr,I4⟩=>?_;subst hr;have o4:=(I4.pin (D,oD) (by simp)).1;have J4:Inv X pins Z H3 s4:=I.yY hf I4;have sx:p9 X pins H3 D:=by
    refine⟨d3,bp (by rw[<- eD];exact I.lt),I.pB (by omega),.inr (by have:=I.sz;omega),λx c q=>?_,λp hp=>?_⟩
    ·obtain⟨v,o,e,_⟩:=I.cell x c q;exact js c o e
    ·exact js _ _ (I.pin p hp).1
   obtain⟨mC,rH,_⟩:=I4.loc;exact se D C s4 (upd H3 D (pC X D (ST.f6 [] ys))) mC (J4.FG sx (by have:=I.sz;omega) (Gs (S3.at λo e=>by rw[o3] at e;cases e;exact o4))) (q D d3) rH (by rw[a7 nN.symm];exact I4.free) (by omega)
  ·refine bS (T.item (a5 X pins scope N' cl C s H fp) rfl rfl rfl rfl i _ s3 _ H3 _ oh (iy lT) lp go) λr s4 ⟨u,hr,h4⟩=>?_;subst hr;refine bS h4 λ_ s5 aS=>?_;obtain⟨x,H5,I5,r5,y5,jL,oX⟩:=aS;have o5:=I5.pin (D,oD) (by simp);have pH:=I5.pinned (iy oX) (T.obj _ _ jL);refine bS (hg C s H _ s5 _ H5 x u _ pH r5 (step x H5 y5)) λ_ s6 aS=>?_;obtain⟨iB,H6,I6,q6⟩:=aS;refine bS (ht C s H _ s6 iB H6 _ I6 q6) λok s7 ⟨H7,I7,q7⟩=>?_;have back:∀{nk:St} {H8:Hp} {s8:Shared},Inv (a5 X pins scope N' cl C s H fp) ([(D,oD)]++P7 fp s5.heap) nk H8 s8->(∀b∈fp,H8 b=none)/\tn (i+1) s8.heap/\H8 D=none/\s8.heap.get? D=some oD :=
    λ{nk H8 s8} I8=>by
     have pf:∀b∈fp,∀o,s5.heap.get? b=some o->s8.heap.get? b=some o/\H8 b=none:=λb hb o e=>by
      have:=I8.pin (b,o) (aU _ (aU _ (J8 hb e)));exact⟨this.1,this.2.1⟩
     have pd:=I8.pin (D,oD) (by simp);refine⟨λb hb=>?_,T.keep _ _ _ jL λb hb o e=>(pf b hb o e).1,pd.2.1,pd.1⟩;obtain⟨o,e,_⟩:=T.obj _ _ jL b hb;exact(pf b hb o e).2
   cases ok with
   |false =>
    obtain⟨m',hm,w7⟩:=q7;obtain⟨b1,b2,b3,b4⟩:=back I7;exact⟨m',hm,i+1,ys,iB,H7,oD,I7.w9 λp hp=>absurd hp (by simp),b2,b1,b3,z3,c3,b4,S3.at λo e=>by rw[o3] at e;cases e;exact b4,w7⟩
   |true =>
    refine bS (he C s H _ s7 iB H7 _ I7 q7) λxv s8 aS=>?_;obtain⟨y,H8,I8,r8,kk,ey,m',hm,w8⟩:=aS;subst ey;obtain⟨tk,rfl⟩:=r8;obtain⟨b1,b2,b3,b4⟩:=back I8;have S8:ST.m5 X.prog X.w s8.heap D (ST.f6 [] ys):=S3.at λo e=>by rw[o3] at e;cases e;exact b4
    have wN:=ST.K8 ys [];simp only[List.length_nil] at wN;refine ST.WE S8 (ak (by omega:_<62) (by decide)) λh' sb S9=>?_;have e9:ST.x6 (ST.f6 [] ys) kk=ST.f6 [] (ys++[kk]):=by unfold ST.f6;rw[YB];rfl
    rw[e9] at S9;obtain⟨o9,JB,JC,t9,g9,x9,d9,r9⟩:=id S9;have c9:V6 o9:=λv z=>by rw[d9] at z;cases z
    have ua:Inv (a5 X pins scope N' cl C s H fp) [] iB H8 s8:=I8.w9 λp hp=>absurd hp (by simp);obtain⟨f0,f1,f2,f3,f4,f5⟩:=fD (H':=H8) b3;have kp:∀b o,b≠D->s8.heap.get? b=some o->h'.get? b=some o:=λb' u hb hu=>by rw[sb.2 b' hb];exact hu
    refine⟨m',hm,i+1,ys++[kk],iB,H8,o9,ua.turned (it:=D) (t':=s8.toks+1) kp f0 f1 f3 f4 f5,T.keep _ _ _ b2 λb hb o e=>kp b o (λz=>nM (by rw[<- z];exact hb)) e,b1,b3,?_,c9,g9,S9,w8⟩;rw[bt,hJ];omega
 exact Vv (loop _ rfl) (T.self _ 0 _ _ _ nB (loop _ rfl))
theorem Xx{tg:Expr}{N':List Str}{a9:List Nat}{cl:List (Str×Addr)}{wi:TI}{g:TG}{tc:TT}{te:TE}(S:cx X scope N' a9 cl)(hc:X.calm=true)(hi:PI X tg iter wi)(hg:∀pins C s H fp,PG (a5 X pins scope N' cl C s H fp) tg g)(ht:∀pins C s H fp,jf (a5 X pins scope N' cl C s H fp) ifs tc)(he:∀pins C s H fp,PE (a5 X pins scope N' cl C s H fp) elt te)(hs:∀x,foldedSetIterable iter X.env x=pure x):PE X (.SetComp elt [⟨tg,iter,ifs,0⟩] scope pos) (Mc X wi a9 N'.length g tc te):=by
 intro pins s Z H Q I h;rw[arm_eval_SetComp];refine eF (use:=none) rfl hs S.ni S.kind S.names (bS (hi pins s Z H _ I h) λxv bx cu=>bS cu λpP eJ fT=>?_);obtain⟨it,fp,tn,J,H2,e,I2,T,iP,f2,W,⟨m0,w0⟩,turn⟩:=fT;subst e;refine Wh (RR:=λacc C=>compPost (model X.prog X.w) X.A X.xe none (EP X pins Z Q) acc C) S hc (λC s H=>hg pins C s H fp) (λC s H=>ht pins C s H fp) (λC s H=>he pins C s H fp) I2 T iP f2 w0 turn ?_;intro D C s' H' m I' q hn hC hsz;exact⟨m,hn,λh' sb=>⟨.ref D,H',I'.zF hsz I2 hC sb,rfl,q⟩⟩
end
end L2
namespace HT
open PySem PyProof.Rows Builtin
theorem To:fillsNumberSlot (.type "tuple") "mul"=pure false :=
 PySem.fillsNumberSlot_seq (id:="tuple.__mul__") (r:=some (.builtin "tuple.__rmul__")) om.lookup (by decide +kernel) F.slot_tuple_rmul.lookup (by decide +kernel)
theorem SH:seqRepeat? (.type "tuple")=pure (some (.builtin "tuple.__mul__")):=by
 unfold seqRepeat?;rw[Zv (T:="tuple") (name:="__mul__") (id:="tuple.__mul__") om.lookup (by decide +kernel),Zv (T:="tuple") (name:="__rmul__") (id:="tuple.__rmul__") F.slot_tuple_rmul.lookup (by decide +kernel)]
 rfl
theorem Te(a:Int)(t:Tok)(l:Addr)(items:Array Value)(n:Nat)(dd:Option Addr)(sl:Array (Option Value)) :
  Meets (Builtin.«int.__rmul__» ⟨[.int a t,.ref l],[]⟩) (λ_ R s=>s.heap.get? l=some { cls:=.type "tuple",dict:=dd,data:=.seq items n,slots:=sl }/\R (.ok (.ret Value.notImplemented)) s) :=
 .of_wp λprog w A R s h=>by obtain⟨hp,g,d,tk,os⟩:=s;obtain⟨hl,h⟩:=h;wp_walk;exact⟨_,rfl,h⟩
theorem Ti(t:Value)(c:Value):Builtin.«tuple.__mul__» ⟨[t,c],[]⟩=(do
 let n <- asIndex c
 if n < -(2 ^ 63)||n>=2 ^ 63 then
  rule "tuple.repeat.overflow";raiseError "OverflowError" s!"cannot fit '{<- typeNameOf c}' into an index-sized integer"
 let xs <- Builtin.Tuple.tupleItemsOf t
 if xs.isEmpty||n==1 then
  if <- Builtin.Tuple.tupleIsExact t then rule "tuple.repeat.same-object";return <- ret t
 if n<=0||xs.isEmpty then return <- ret (<- Builtin.Tuple.tupleExact #[])
 if xs.size*n>(2 ^ 63-1) / 8 then rule "tuple.repeat.no-memory";raiseNew (<- newExc (.type "MemoryError") [])
 if Builtin.Tuple.tupleTooMany (xs.size*n) then unsupported "tuple.__mul__:memory"
 ret (<- Builtin.Tuple.tupleExact ((List.replicate n.toNat xs).foldl (· ++ ·) #[]))):=rfl
section
variable{prog:Program}{w:World}{A:Around}{E:Value->Shared->Prop}{s:Shared}
theorem UY(aL:List Value):∀(m:Nat) (acc:Array Value),List.foldl (λx1 x2=>x1++x2) acc (List.replicate m aL.toArray)=acc++(List.replicate m aL).flatten.toArray:=by
 intro m
 induction m with
 |zero=>intro acc;simp
 |succ m ih=>intro acc;rw[bO,List.foldl_cons,ih,bO,cN];simp
theorem UN{a:Addr}{aL:List Value}{n:Int}{t:Tok}{Q:Value->Shared->Prop}(ht:IsTup s.heap a aL.toArray)(eR:aL≠[])(h1:1<=n)(h2:n<2 ^ 62)(hz:aL.length*n.toNat<=sizeLine)(q1:n=1->Q (.ref a) s)(q2:Q (.ref s.heap.objs.size) { s with heap:=s.heap.push { cls:=.type "tuple",data:=.seq (List.replicate n.toNat aL).flatten.toArray } }):wpAny (model prog w) A (binaryOp .Mult (.ref a) (.int n t)) Q E s:=by
 obtain⟨o,ho,hc,k,hd⟩:=id ht;obtain⟨cls,dict,data,slots⟩:=o;dsimp only at hc hd;subst hc hd;have he:aL.toArray.isEmpty=false:=by cases aL<;>first|exact absurd rfl eR|rfl
 refine Az (T:="tuple") (U:="int") (by decide) ht.typeIs (λs'=>kY s' n t) To F.fills_int_mul jd SH F.slot_int_index.lookup
  (cK jd (kY s n t) F.entry_int_rmul (F.args_int_rmul_2 _ _) (Te n t a aL.toArray k dict slots) ⟨ho,rfl,ht.typeIs,?_⟩)
 refine bD om ht.typeIs F.entry_tuple_mul ?_ (F.args_tuple_mul_2 _ _);rw[Ti];refine aa (dN (show asIndex (.int n t)=pure n from rfl) ?_);dsimp only;rw[aD (by simp only[Bool.or_eq_true,decide_eq_true_eq];omega)];refine aa (tupleItemsOf_ ht ?_);have big:¬((aL.toArray.size:Int)*n>(2 ^ 63-1) / 8):=by
  rw[av];have:((aL.length*n.toNat:Nat):Int)=(aL.length:Int)*n:=by rw[Int.natCast_mul];rw[show((n.toNat:Nat):Int)=n by omega]
  rw[<- this];have hs:sizeLine<2 ^ 59:=by decide
  omega
 have many:¬(Builtin.Tuple.tupleTooMany ((aL.toArray.size:Int)*n)=true):=by
  unfold Builtin.Tuple.tupleTooMany;rw[av,dW];have:((aL.length*n.toNat:Nat):Int)=(aL.length:Int)*n:=by rw[Int.natCast_mul];rw[show((n.toNat:Nat):Int)=n by omega]
  rw[<- this];omega
 have hsz:sizeOk (.seq (List.replicate n.toNat aL).flatten.toArray):=by
  show(List.replicate n.toNat aL).flatten.toArray.size<=sizeLine;simp only[List.size_toArray,List.length_flatten,List.map_replicate,List.sum_replicate_nat];rw[qx];exact hz
 by_cases e1:n=1
 ·subst e1;rw[aK (by rw[he];rfl)];unfold Builtin.Tuple.tupleIsExact;refine aa (aa (cU ht.typeIs (ai ?_)));rw[aK (by decide)]
  first
   |exact aa (eM (aa (ai ⟨_,rfl,ai (q1 rfl)⟩)))
   |exact aa (eM (ai ⟨_,rfl,(q1 rfl)⟩))
   |exact aa (eM (ai ⟨_,rfl,ai (q1 rfl)⟩))
 ·rw[aD (by rw[he];simpa using e1)];rw[aD (by rw[he];simp;omega),aD big,aD many];rw[show List.foldl (λx1 x2=>x1++x2) #[] (List.replicate n.toNat aL.toArray)=(List.replicate n.toNat aL).flatten.toArray by rw[UY];simp]
  first
   |exact aa (m:=Builtin.Tuple.tupleExact _) (bz (ai ⟨_,rfl,q2⟩) hsz)
   |exact aa (m:=Builtin.Tuple.tupleExact _) (bz (ai ⟨_,rfl,ai q2⟩) hsz)
end
end HT
namespace L2
open PySem PySem.Spec PyProof.Rows
section
variable{X:Cx}
def RQ(K:PySem.W.Frag):R2:=λx y H Q=>∃(a:Addr) (n:Int) (xs:List V),x=.ref a/\y=.int n/\gw K H a xs/\xs≠[]/\1<=n/\n<2 ^ 62/\xs.length*n.toNat<=sizeLine /\
 (n=1->Q (.ref a) H)/\(∀p,H p=none->Q (.ref p) (upd H p (.tup (List.replicate n.toNat xs).flatten)))
theorem Nh:eY X (binaryOp .Mult) (RQ X.K):=by
 intro pins s Z H x y v u Q I rx ry h;obtain⟨a,n,xs,rfl,rfl,ha,eR,h1,h2,hz,q1,q2⟩:=h;cases rx;obtain⟨tk,rfl⟩:=ry;obtain⟨aL,r,p,_⟩:=I.tuple ha;refine HT.UN p (λz=>eR (r.O8.mp z)) h1 h2 (by rw[<- r.length];exact hz) (λe=>⟨.ref a,H,I,rfl,q1 e⟩) ?_;refine⟨.ref s.heap.objs.size,_,I.laid (t':=s.toks) (o:=.tup (List.replicate n.toNat xs).flatten) (λb ob q=>ah _ q) (aj _) ?_,rfl,q2 _ (I.br.fresh (aj _))⟩;exact⟨by rw[len_rep,qx];exact hz,_,r.rep _,F8.new _ _⟩
def MM(sep:Str)(ys:List Str):Nat:=ys.foldl (λn y=>n+y.length+sep.length) 0
end
end L2
namespace HT
open PySem PyProof.Rows Builtin PySem.SeqAt
theorem SY(l:Addr)(items:Array Value)(n:Nat)(dd:Option Addr)(sl:Array (Option Value))(x:Value)(e:Value->Bool)(j:Nat)(hj:j<items.size)(hit:e items[j]=true)(jO:∀m (hm:m<items.size),m<j->e items[m]=false) :
    Meets (Builtin.«tuple.index» ⟨[.ref l,x],[]⟩)
      (λA R s=>s.heap.get? l=some { cls:=.type "tuple",dict:=dd,data:=.seq items n,slots:=sl }/\(∀y,y∈items->EqAt A.in1 s y x (e y))/\R (.ok (.ret (.int j s.toks))) { s with toks:=s.toks+1 }) :=
  .of_wp λprog w A R s h=>by
    obtain⟨hp,g,d,tk,os⟩:=s;obtain⟨hl,he,h⟩:=h
    wp_walk using wpAny_loadPart' hl
    show wpAny (model prog w) A.in1 (forIn ([:Min.min items.size items.size]:Std.Legacy.Range) ((none,()):Option PySem.Fin × Unit) (λ(i:Nat) __s =>
            match items[i]? with
            |some y=>do
              let __do_lift <- eqBool y x
              if __do_lift=true then do
                  let __do_lift <- retInt (i:Nat)
                  pure (ForInStep.done (some __do_lift,()))
                else pure (ForInStep.yield (none,()))
            | x=>pure (ForInStep.yield (none,())))) _ _ _
    rw[Std.Legacy.Range.forIn_eq_forIn_range'];simp only[Std.Legacy.Range.size,Nat.sub_zero,Nat.add_sub_cancel,Nat.div_one,Nat.min_self];refine wpAny_forIn_list _ (λrest b s'=>b=(none,())/\s'=⟨hp,g,d,tk,os⟩/\∃i,rest=List.range' i (items.size-i)/\i<=j) _ ?_ ?_ _ _ ⟨rfl,rfl,0,by simp,bX _⟩
    · rintro y rest b s' ⟨rfl,rfl,i,hr,hi⟩;have dF:i<items.size:=by omega
      rw[show items.size-i=(items.size-(i+1))+1 by omega,List.range'_succ] at hr;cases hr;rw[show items[y]?=some items[y] from fR dF];refine aa (he _ (Array.getElem_mem dF) prog w _ _ ?_);by_cases ie:y=j
      · subst ie;rw[hit]
        wp_walk
        exact⟨_,rfl,h⟩
      · rw[jO y dF (by omega)]
        wp_walk
        exact⟨rfl,rfl,y+1,rfl,by omega⟩
    · rintro b s' ⟨rfl,rfl,i,hr,hi⟩;exfalso;have:=du List.length hr;simp at this;omega
section
variable{prog:Program}{w:World}{A:Around}{E:Value->Shared->Prop}{s:Shared}
theorem Up:typeLookup (.type "tuple") (dunderI "add")=pure none:=by
 show typeLookup (.type "tuple") "__iadd__"=pure none;rw[fP,dz];kernel_rfl
theorem WX{t b:Addr}{vs ws:List Value}{Q:Value->Shared->Prop}(ht:IsTup s.heap t vs.toArray)(hb:IsTup s.heap b ws.toArray)(h0:vs=[]->Q (.ref b) s)(h1:ws=[]->Q (.ref t) s)(h2:Q (.ref s.heap.objs.size) { s with heap:=s.heap.push { cls:=.type "tuple",data:=.seq (vs++ws).toArray } })(hsz:vs.length+ws.length<=sizeLine):wpAny (model prog w) A (inplaceOp .Add (.ref t) (.ref b)) Q E s:=by
 obtain⟨⟨cls,dd,data,sl⟩,ho,hc,n,hd⟩:=id ht;obtain⟨⟨sL,nT,data2,jV⟩,jN,lP,n2,hd2⟩:=id hb;simp only at hc hd lP hd2;subst hc hd lP hd2;have e:vs.toArray++ws.toArray=(vs++ws).toArray:=by simp
 refine wpAny_inplaceOp_concat (T:="tuple") ⟨_,ho,rfl⟩ ⟨_,jN,rfl⟩ Up ir kJ ?_;by_cases hv:vs=[]
 ·subst hv;exact cK oo ⟨_,ho,rfl⟩ mK (lg _ _) (tuple_addW0 t b #[] ws.toArray n n2 dd nT sl jV rfl) ⟨ho,jN,h0 rfl⟩
 by_cases hw:ws=[]
 ·exact cK oo ⟨_,ho,rfl⟩ mK (lg _ _) (tuple_addW1 t b vs.toArray ws.toArray n n2 dd nT sl jV (by simpa using hv) (by simp[hw])) ⟨ho,jN,h1 hw⟩
 ·refine cK oo ⟨_,ho,rfl⟩ mK (lg _ _) (tuple_addW2 t b vs.toArray ws.toArray n n2 dd nT sl jV (by simpa using hv) (by simpa using hw) (by rw[av,av];exact hsz)) ⟨ho,jN,?_⟩;rw[e];exact h2
end
end HT
namespace L2
open PySem PySem.Spec PyProof.Rows
variable{xs:List V}
section
variable{X:Cx}
def vn(ys:List V)(y:V)(n:Nat):Prop:=ys.all C9=true/\C9 y=true/\(∃z,ys[n]?=some z/\kF z y=true)/\∀(m:Nat) z,m<n->ys[m]?=some z->kF z y=false
theorem yV:∀{xs:List V} {us:List Value} {i:Nat} (hi:i<us.length),Vals xs us->∃x,xs[i]?=some x/\RelV x us[i]
 |_,_,0,hi,.cons r _=>⟨_,rfl,r⟩
 |_,_,i+1,hi,.cons _ t=>by
  obtain⟨x,h1,h2⟩:=yV (i:=i) (by simpa using hi) t;exact⟨x,by simpa using h1,by simpa using h2⟩
theorem Fh(h:xs.all C9=true){i:Nat}{x:V}(e:xs[i]?=some x):C9 x=true:=dC.mp h x (bH e)
theorem DP{ys:List V}{y:V}{n:Nat}{aL:List Value}(F:vn ys y n)(r:Vals ys aL):∃hn:n<aL.toArray.size,kG y aL.toArray[n]=true/\∀m (hm:m<aL.toArray.size),m<n->kG y aL.toArray[m]=false:=by
 obtain⟨fs,fy,⟨z,hz,he⟩,jO⟩:=F;have hl:=r.length;have hn:n<aL.length:=by
  have:=(ax.mp hz).1;omega
 refine⟨by simpa using hn,?_,λm hm Io=>?_⟩
 ·obtain⟨x,hx,rx⟩:=yV hn r;rw[hz] at hx;cases hx;rw[vY,ve rx (Fh fs hz)];exact he
 ·have oN:m<aL.length:=by simpa using hm
  obtain⟨x,hx,rx⟩:=yV oN r;rw[vY,ve rx (Fh fs hx)];exact jO m x Io hx
def Gm(K:PySem.W.Frag):V->List V->Hp->VK->Prop:=λx xs H Q=>∃a ys y n,x=.ref a/\xs=[y]/\gw K H a ys/\vn ys y n/\Q (.int n) H
def Gk(K:PySem.W.Frag):V->List V->Hp->VK->Prop:=λx xs H Q=>∃a ys y n,x=.ref a/\xs=[y]/\eT K H a ys/\vn ys y n/\n<2 ^ 62/\Q (.int n) H
theorem Uo:jR X "tuple.index" (Gm X.K):=by
 intro pins s Z H x xs v us Q I rx r h;obtain⟨a,ys,y,n,rfl,rfl,hq,W,q⟩:=h;cases rx;cases r with
 |cons ry rr =>
 cases rr;obtain⟨aL,rv,p,hz⟩:=I.tuple hq;obtain⟨hn,hit,jO⟩:=DP W rv;obtain⟨⟨cls,dd,data,sl⟩,ho,hc,k,hd⟩:=id p;simp only at hc hd;subst hc hd;refine cK F.slot_tuple_index p.typeIs F.entry_tuple_index (F.args_tuple_index_2 _ _) (HT.SY a aL.toArray k dd sl _ (kG y) n hn hit jO) ⟨ho,λw hw=>Q1 ry W.2.1 rv W.1 w (by simpa using hw),⟨.int n,H,I.tok _,⟨_,rfl⟩,q⟩⟩
theorem Um:jR X "list.index" (Gk X.K):=by
 intro pins s Z H x xs v us Q I rx r h;obtain⟨a,ys,y,n,rfl,rfl,hq,W,mW,q⟩:=h;cases rx;cases r with
 |cons ry rr =>
 cases rr;obtain⟨aL,rv,p,hz⟩:=I.list hq;obtain⟨hn,hit,jO⟩:=DP W rv;have pt:=p.isList.typeIs;obtain⟨⟨cls,dd,data,sl⟩,k,ho,hc,BC,hd⟩:=id p;simp only at hc BC hd;subst hc BC hd;refine cK F.slot_list_index pt F.entry_list_index (F.args_list_index_2 _ _) (SeqAt.list_indexAt a aL.toArray k none sl _ (kG y) n hn (by omega) hit jO) ⟨ho,λw hw=>Q1 ry W.2.1 rv W.1 w (by simpa using hw),⟨.int n,H,I.tok _,⟨_,rfl⟩,q⟩⟩
def tP(K:PySem.W.Frag)(H:Hp)(a:Addr)(xs:List V):Prop :=
 H a=some (.tup xs)\/∃(o:Obj) (aL:Array Value) (n:Nat),K.lookup a=some o/\o.cls=.type "tuple"/\o.dict=none/\o.data=.seq aL n/\aL.size<=sizeLine/\Vals xs aL.toList
theorem tP.sq{K:PySem.W.Frag}{H:Hp}{a:Addr}(h:tP K H a xs):gw K H a xs:=by
 rcases h with h|⟨o,aL,n,h1,h2,_,h3,h4,h5⟩
 ·exact .inl (.inl h)
 ·exact .inr ⟨o,aL,n,h1,h2,h3,h4,h5⟩
theorem Inv.Qp{pins:List (Addr×Obj)}{Z:St}{H:Hp}{s:Shared}{a:Addr}(I:Inv X pins Z H s)(h:tP X.K H a xs):s.TypeIs (.ref a) "tuple"/\∀b,Value.ref a=.ref b->∃ob,s.heap.get? b=some ob/\ob.dict=none:=by
 rcases h with h|⟨o,aL,n,h1,h2,h3,_⟩
 ·obtain⟨_,aL,_,o,e,c,_,d⟩:=(show j4 X.prog X.w H s.heap a (.tup xs) from I.br a _ h)
  exact⟨⟨o,e,c⟩,λb q=>by cases q;exact⟨o,e,d⟩⟩
 ·exact⟨⟨o,I.fE a o h1,h2⟩,λb q=>by cases q;exact⟨o,I.fE a o h1,h3⟩⟩
def L'(K:PySem.W.Frag)(to:TE)(t:TA):TE:=λZ H Q=>to Z H λx H1=>(∃a xs,x=.ref a/\eT K H1 a xs/\t Z H1 λys H2=>Gk K x ys H2 Q)\/(∃a xs,x=.ref a/\tP K H1 a xs/\t Z H1 λys H2=>Gm K x ys H2 Q)
theorem Xu{o e:Expr}{es:List Expr}{to:TE}{t:TA}{apos dy:Pos}(ho:PE X o to)(ha:PA X (e::es) t)(eX:attributeBase o "index" X.env (eval o X.env)=eval o X.env)(jP:((backTo dy (starEach (e :: es) X.env)).all (λx=>!x.1) && (backToKw dy (keywordEach [] X.env)).all (λx=>x.1.isSome)
   && decide ((e :: es).length + ([]:List Keyword).length + (if ([]:List Keyword).isEmpty then 0 else 1) < 30))=true)(eW:(apos.endLine==dy.line)=true)(hs:starEach (e::es) X.env=(false,eval e X.env)::starEach es X.env)(dR:(backTo dy (starEach es X.env)).any (·.1)=false) :
  PE X (.Call (.Attribute o "index" apos) (e::es) [] dy) (L' X.K to t):=by
 intro pins s Z H Q I h;refine Zr eX jP eW rfl (bS (ho pins s Z H _ I h) λv s1 aS=>?_);obtain⟨x,H1,I1,r1,q1⟩:=aS;rcases q1 with⟨a,xs,rfl,hq,q1⟩|⟨a,xs,rfl,hq,q1⟩
 ·cases r1;obtain⟨aL,rv,pl,hz⟩:=I1.list hq;have pt:=pl.isList.typeIs;obtain⟨ob,k,e1,_,e2,_⟩:=id pl;refine⟨"list","list.index",F.plainAttrs_list,F.slot_list_index,F.type_list_index,pt,λb q=>by cases q;exact⟨ob,e1,e2⟩,?_⟩;have hA:=ha dy pins s1 Z H1 _ I1 q1;rw[hs] at hA ⊢;refine ff (by show(false||(backTo dy (starEach es X.env)).any (·.1))=false;rw[dR]<;>rfl) (fK ?_);exact bS hA λus s2 ⟨vs,H2,I2,r2,q2⟩=>Um pins s2 Z H2 (.ref a) vs (.ref a) us Q I2 rfl r2 q2
 ·cases r1;obtain⟨pt,hd⟩:=I1.Qp hq;refine⟨"tuple","tuple.index",F.plainAttrs_tuple,F.slot_tuple_index,F.type_tuple_index,pt,hd,?_⟩;have hA:=ha dy pins s1 Z H1 _ I1 q1;rw[hs] at hA ⊢;refine ff (by show(false||(backTo dy (starEach es X.env)).any (·.1))=false;rw[dR]<;>rfl) (fK ?_);exact bS hA λus s2 ⟨vs,H2,I2,r2,q2⟩=>Uo pins s2 Z H2 (.ref a) vs (.ref a) us Q I2 rfl r2 q2
def RP(K:PySem.W.Frag):V->V->Hp->VK->Prop:=λx y H Q=>(∃i j,x=.int i/\y=.int j/\Q (.int (i+j)) H) \/
 ∃a b xs ys,x=.ref a/\y=.ref b/\gw K H a xs/\gw K H b ys/\xs.length+ys.length<=sizeLine/\(xs=[]->Q (.ref b) H)/\(ys=[]->Q (.ref a) H)/\(∀p,H p=none->Q (.ref p) (upd H p (.tup (xs++ys))))
theorem FT:Af X .Add (RP X.K):=by
 rintro pins s Z H x y u v Q I rx ry h;rcases h with h|⟨a,b,xs,ys,rfl,rfl,ha,hb,hz,q0,q1,q2⟩
 ·exact JW pins s Z H x y u v Q I rx ry h
 ·cases rx;cases ry;obtain⟨aL,r1,p1,_⟩:=I.tuple ha;obtain⟨lG,r2,p2,_⟩:=I.tuple hb;refine HT.WX p1 p2 (λz=>⟨.ref b,H,I,rfl,q0 (r1.O8.mp z)⟩) (λz=>⟨.ref a,H,I,rfl,q1 (r2.O8.mp z)⟩) ?_ (by rw[<- r1.length,<- r2.length];exact hz);refine⟨.ref s.heap.objs.size,_,I.laid (t':=s.toks) (o:=.tup (xs++ys)) (λb ob q=>ah _ q) (aj _) ?_,rfl,q2 _ (I.br.fresh (aj _))⟩;exact⟨by rw[bt];exact hz,_,r1.append r2,F8.new _ _⟩
end
end L2
namespace ST
open PySem PyProof.Rows
def Spot(k:Int):Prop:=0<=k/\k<8
structure Own(mask:Nat)(owner:Array (Option Nat))(pre:List Int):Prop where
 sz:owner.size=mask+1
 fwd:∀(i:Nat) (k:Int),pre[i]?=some k->owner[k.toNat]?=some (some i)
 bwd:∀(j i:Nat),owner[j]?=some (some i)->pre[i]?=some (j:Int)
section
variable{prog:Program}{w:World}{a:Addr}
def Ov(prog:Program)(w:World)(h:Heap)(a:Addr)(ks:List Int):Prop :=
 ∃o es ep t,h.get? a=some o/\o.ExactSet/\o.data=.set es ep t/\ElemsOf (intKind prog w) es.toList/\(es.toList.map λe=>toI e.2).Perm ks/\ks.Nodup/\es.size<scanBound/\t.fits es.size=true/\Well (Led w) t/\(ks=[]->7<=t.mask)
theorem m5.toV{h:Heap}{ks:List Int}(x:m5 prog w h a ks)(hn:ks≠[]):Ov prog w h a ks:=by
 obtain⟨o,es,ep,t,h1,h2,h3,h4,h5,h6,h7,h8,h9⟩:=x;exact⟨o,es,ep,t,h1,h2,h3,h4,h5,h6,h7,h8,h9,λz=>absurd z hn⟩
theorem m5.same{h:Heap}{ks us:List Int}(x:m5 prog w h a ks)(hp:ks.Perm us):m5 prog w h a us:=by
 obtain⟨o,es,ep,t,h1,h2,h3,h4,h5,h6,h7⟩:=x;exact⟨o,es,ep,t,h1,h2,h3,h4,h5.trans hp,hp.nodup_iff.mp h6,h7⟩
theorem above:∀n,n<300->7<SetTable.sizeAbove n/\n<SetTable.sizeAbove n/\SetTable.sizeAbove n<=sizeLine:=by decide +kernel
end
end ST
namespace L2
open PySem PySem.Spec PyProof.Rows
variable{X:Cx}
end L2
namespace ST
open PySem PyProof.Rows
theorem SQ:typeLookup (.type "dict") "__len__"=pure (some (.builtin "dict.__len__")):=by rw[fP,dz];kernel_rfl
section
variable{prog:Program}{w:World}{A:Around}{E:Value->Shared->Prop}{s:Shared}{a:Addr}{ep:Nat}{K:Type}[DecidableEq K]{knd:PySem.KeyKind prog w K}{kvs:List (K×Value)}
theorem Ws(hh:A.handled=none)(hd:(a==sysModules)=false)(hm:s.heap.DictAt knd a kvs ep)(hz:kvs.length<=10000){Q:List Value->Shared->Prop}(h:∀(vs:List Value) h' iC,vs.length=kvs.length->(∀(i:Nat) v,vs[i]?=some v->∃k x,kvs[i]?=some (k,x)/\knd.is k v=true)->(∀c o,s.heap.get? c=some o->h'.get? c=some o)->s.heap.objs.size<=h'.objs.size->s.toks<=iC->Q vs { s with heap:=h',toks:=iC }) :
  wpAny (model prog w) A (collect (.ref a)) Q E s:=by
 have dF:a<s.heap.objs.size:=hm.lt_size;unfold collect;refine aa (vU (cS F.entry_proto_collect ?_));rw[cz F.plain_proto_collect _];show wpAny _ A.in1 (newList [] >>= λl=>again (.builtin "list.__iadd__" ⟨[l,.ref a],[]⟩)) _ _ s;refine aa (bz ?_);refine ai ⟨fF gS _,cS F.entry_list_iadd ?_⟩;rw[cz gS _];have mq:=hm.push { cls:=.type "list",data:=.seq ([]:List Value).toArray };have xI:(s.heap.push { cls:=.type "list",data:=.seq ([]:List Value).toArray }).get? s.heap.objs.size=some { cls:=.type "list",data:=.seq ([]:List Value).toArray }:=au _ rfl;have eR:s.heap.objs.size≠a:=bp dF;have h1:Builtin.List.listSameRef (.ref s.heap.objs.size) (.ref a)=false:=by simp[Builtin.List.listSameRef,eR]
 show wpAny _ A.in1 (Builtin.List.listExtendWith (.ref s.heap.objs.size) (.ref a) (.ref s.heap.objs.size)) _ _ _;unfold Builtin.List.listExtendWith;refine aa (cU (s:={ s with heap:=_ }) mq.dictOf.typeIs ?_);rw[aD (by rw[h1];decide)];refine aa (wpAny_pyIter_dict (s:={ s with heap:=_ }) hd mq ?_);have jX:s.heap.objs.size<(s.heap.push { cls:=.type "list",data:=.seq ([]:List Value).toArray }).objs.size:=by rw[gn];exact dA _
 have IW:((s.heap.push { cls:=.type "list",data:=.seq ([]:List Value).toArray }).push { cls:=.type "dict_keyiterator",data:=.fields #[.ref a,.int 0 0,.int kvs.length 0,.int ep 0] }).IsKeyIter (s.heap.push { cls:=.type "list",data:=.seq ([]:List Value).toArray }).objs.size a 0 kvs.length ep:=⟨_,au _ rfl,rfl,rfl⟩
 have mZ:=mq.push { cls:=.type "dict_keyiterator",data:=.fields #[.ref a,.int 0 0,.int kvs.length 0,.int ep 0] };have he:∀c o,(s.heap.push { cls:=.type "list",data:=.seq ([]:List Value).toArray }).get? c=some o->((s.heap.push { cls:=.type "list",data:=.seq ([]:List Value).toArray }).push { cls:=.type "dict_keyiterator",data:=.fields #[.ref a,.int 0 0,.int kvs.length 0,.int ep 0] }).get? c=some o:=λc o e=>ah _ e;have nL:=he _ _ xI;generalize ((s.heap.push { cls:=.type "list",data:=.seq ([]:List Value).toArray }).push { cls:=.type "dict_keyiterator",data:=.fields #[.ref a,.int 0 0,.int kvs.length 0,.int ep 0] })=h2 at *;generalize Zd:(s.heap.push { cls:=.type "list",data:=.seq ([]:List Value).toArray }).objs.size=I at *;refine aa (bj ?_);unfold Builtin.List.listLengthHint;refine aa (wpAny_specialOf (s:={ s with heap:=h2 }) mZ.dictOf.typeIs SQ ?_);generalize rQ:("dict.__len__":String)=wQ;dsimp only;rw[show splitId wQ=some ("dict","__len__") from by subst rQ;decide +kernel];dsimp only;refine aa (fB (s:={ s with heap:=h2 }) (b:=true) mZ.dictOf.typeIs (by rw[fb];kernel_rfl) ?_);rw[aD (by decide)];subst rQ;rw[aK (by decide +kernel)];refine aa (cU (s:={ s with heap:=h2 }) mZ.dictOf.typeIs ?_);refine ai ?_;rw[aK (by decide +kernel)];refine aa (eM ?_);refine aa ?_;show wpAny _ A.in1 (updateSeq s.heap.objs.size (·.push .none) >>= λ_=>updateSeq s.heap.objs.size (·.pop)) _ _ _;refine aa (ja (s:={ s with heap:=h2 }) nL rfl ?_);have sd:=aW (Obj.mapSeq (·.push Value.none)) nL rfl;refine ja (s:={ s with heap:=_ }) sd rfl ?_;have xH:=aW (Obj.mapSeq (·.pop)) sd rfl;have qO:∀c o,c≠s.heap.objs.size->h2.get? c=some o->((h2.update s.heap.objs.size (Obj.mapSeq (·.push Value.none))).update s.heap.objs.size (Obj.mapSeq (·.pop))).get? c=some o :=
  λc o hc e=>(bR _ _ (bg hc)).trans ((bR _ _ (bg hc)).trans e)
 have IT:I≠s.heap.objs.size:=bp jX;have IQ:a≠I:=aE (bW dF jX);have W:=(Walks.dictKeys (prog:=prog) (w:=w) (A:=A.in1) (knd:=knd) hh I a IQ kvs ep).toS;have st:h2.IsKeyIter I a 0 kvs.length ep/\h2.DictAt knd a kvs ep:=⟨IW,mZ⟩
 have iP:=W.frame 0 ({ s with heap:=h2 }:Shared) _ s.toks st (aj _) λc hc o e=>qO c o (λz=>by simp at hc;rcases hc with y|y<;>simp_all) e;refine ai ⟨fF F.plain_extend_loop _,codeAny_extend_loopS W (aI hz (by decide)) _ (λz=>by simp at z;rcases z with y|y<;>simp_all) _ kvs.length 0 _ _ _ rfl (bX _) iP xH (ItemsOf.nil _) λs' pF c' hm ka gO=>?_⟩;show wpAny _ A (load s.heap.objs.size >>= _) _ _ s';refine aa (wpAny_load ka ?_);refine ai ?_;have eS:s'={ s with heap:=s'.heap,toks:=s'.toks }:=by
  obtain⟨fz,g',d',iC,oC⟩:=s';have m1:g'=s.gens:=hm.gens;have m2:d'=s.drawn:=hm.drawn;have m3:oC=s.os:=hm.os;subst m1;subst m2;subst m3
  rfl
 rw[eS];refine h _ _ s'.toks (by simpa using gO.1) (λi v hv=>gO.2 i v (by simpa using hv)) (λc o e=>?_) (cL (aq ka)) hm.toks;have hc:c<s.heap.objs.size:=aq e;have n1:c≠s.heap.objs.size:=aE hc;have n2:c≠I:=aE (bW hc jX);exact hm.heap c o (by simp[n1,n2]) (qO c o n1 (he c o (ah _ e)))
theorem MO{i:Int}{v:Value}(h:(L2.d7 prog w).is (.inl i) v=true):∃t,v=.int i t:=by
 rw[L2.EE] at h;rcases L2.k6 h with⟨j,t,e1,e2⟩|⟨x,t,e1,_⟩
 ·cases e1;exact⟨t,e2⟩
 ·cases e1
theorem Wj{kvs:List (L2.Key×Value)}{ns:List Int}(hh:A.handled=none)(hd:(a==sysModules)=false)(hm:s.heap.DictAt (L2.d7 prog w) a kvs ep)(hk:kvs.map (·.1)=ns.map Sum.inl)(xP:ns.length<64){Q:Value->Shared->Prop}(h:∀(S:Addr) (vs:List Value) (iS:List Int) e h' iC,IntsAre vs iS->iS.Perm ns->iS.Pairwise (·<=·)->h'.get? S=some (seqObj "list" vs.toArray e)->s.heap.objs.size<=S->(∀c o,s.heap.get? c=some o->h'.get? c=some o)->s.toks<=iC->Q (.ref S) { s with heap:=h',toks:=iC }) :
  wpAny (model prog w) A (call (.builtin "sorted") [.ref a]) Q E s:=by
 have hl:kvs.length=ns.length:=by simpa using du List.length hk
 refine gK kind_sorted plain_sorted entry_sorted (args_sorted1 _) ?_;unfold Builtin.«sorted»;refine aa (m:=checkCount "sorted" 1 1 _) (ai ?_);refine aa (Ws (A:=A.in1) hh hd hm (by omega) λvs h1 ou Bn hv he jX pR=>?_);have hI:IntsAre vs ns:=by
  have all:∀(i:Nat) v,vs[i]?=some v->∃n tk,ns[i]?=some n/\v=.int n tk:=λi v e=>by
   obtain⟨k,x,h1,h2⟩:=hv i v e;have h3:(kvs.map (·.1))[i]?=some k:=by rw[aF,h1];rfl
   rw[hk,aF,ae] at h3;obtain⟨n,h4,rfl⟩:=h3;obtain⟨tk,e⟩:=MO h2;exact⟨n,tk,h4,e⟩
  have xp:vs.length=ns.length:=Bn.trans hl;clear hv Bn hl hk h
  induction vs generalizing ns with
  |nil =>
   cases ns with
   |nil=>exact .nil
   |cons=>simp at xp
  |cons v r ih =>
   cases ns with
   |nil=>simp at xp
   |cons n ns =>
    obtain⟨n',tk,e1,e2⟩:=all 0 v rfl;cases e1;rw[e2];exact .cons n tk (ih (by simp at xP;omega) (λi v e=>all (i+1) v e) (by simpa using xp))
 have pU:vs.length<64:=by omega
 refine aa (GU (s:={ s with heap:=h1,toks:=ou }) ?_);have kz:(h1.push (seqObj "list" vs.toArray 0)).get? h1.objs.size=some (seqObj "list" vs.toArray 0):=au _ rfl;refine aa (bj (bD (s:={ s with heap:=h1.push (seqObj "list" vs.toArray 0),toks:=ou }) slot_list_sort ⟨_,kz,rfl⟩ entry_list_sort (list_sort_tree kz hI pU λout iS a1 a2 a3=>⟨_,rfl,?_⟩) (args_list_sort _)));obtain⟨e,oO⟩:=sortedHeap_at (vs:=vs) (out:=out) kz;refine ai ⟨_,rfl,h h1.objs.size out.toList iS e _ ou a1 a2 a3 oO jX (λc o' e'=>?_) pR⟩;have hc:=aq (he c o' e');rw[sortedHeap_old (aE hc) (by rw[gn];exact jH hc)];exact ah _ (he c o' e')
end
end ST
namespace L2
open PySem PySem.Spec PyProof.Rows
variable{X:Cx}
theorem R7:∀{ns ks:List Int},(ks++ns).Nodup->ST.f6 ks ns=ks++ns
 |[],ks,_=>by simp[ST.f6]
 |n::r,ks,h=>by
  have hn:n∉ks:=λz=>by
   have:=(fY.mp h).2.2 n z n (by simp);exact this rfl
  have e:ST.x6 ks n=ks++[n]:=by
   unfold ST.x6;rw[aD (by simpa using hn)]
  show ST.f6 (ST.x6 ks n) r=_;rw[e,R7 (by rw[eI];exact h),eI]
  rfl
theorem Tn(hc:X.calm=true):j5 X (.builtin "sorted") (λxs H Q=>∃a kvs ns,xs=[.ref a]/\H a=some (.dK kvs)/\kvs.map (·.1)=ns.map Sum.inl/\ns.length<60/\∀p,H p=none->Q (.ref p) (upd H p (.lst ((u9 ns).map V.int)))):=by
 intro pins s Z H xs us Q I r h;obtain⟨a,kvs,ns,rfl,ha,hk,hl,q⟩:=h;cases r with
 |cons r rr =>
 cases rr;cases r;obtain⟨_,hd,vs,kv,hD⟩:=qo I.br ha;obtain⟨ep,hA⟩:=hD.dictAt;have Bx:vs.map (·.1)=ns.map Sum.inl:=kv.keys.symm.trans hk;have Ik:ns.Nodup:=by
  obtain⟨_,_,_,_,_,_,_,_,nd⟩:=id hD;rw[Bx] at nd;exact(dn.mp nd).imp λh e=>h (du _ e)
 refine ST.Wj (I.ok.hd hc) hd hA Bx (by omega) λS us iS e h' iC h1 h2 h3 h4 h5 h6 _=>?_;have e1:iS=u9 ns:=I9 (h2.trans ((O3 ns).trans (by rw[R7 (ks:=[]) Ik];exact .refl _)).symm) h3 (W0 ns);subst e1;have hz:=Eh ns;exact⟨.ref S,_,(I.laid (a:=S) (o:=.lst ((u9 ns).map V.int)) (t':=iC) h6 h5 ⟨by rw[ay];exact aI hz (aI (cL hl) (by decide)),us,e,V9 h1,h4⟩),rfl,q S (I.br.fresh h5)⟩
theorem EO{aL:List Value}{ns:List Int}(hi:IntsAre aL ns):∃xs,aL.toArray=intItems xs/\ns=xs.toList.map (·.1):=by
 obtain⟨xs,e⟩:=hi.allInts.items;exact⟨xs,e,by rw[<- hi.numsOf,<- nums_intItems,<- e]⟩
theorem TF(hc:X.calm=true):j5 X (.builtin "sum") (λxs H Q=>∃a,∃ns:List Int,xs=[.ref a]/\eT X.K H a (ns.map V.int)/\Q (.int ns.sum) H):=by
 intro pins s Z H xs us Q I r h;obtain⟨a,ns,rfl,ha,q⟩:=h;obtain⟨u,rfl,ru⟩:=vals1 r;cases ru;obtain⟨aL,rv,p,hz⟩:=I.list ha;obtain⟨xs,e,en⟩:=EO (E8 rv);refine sum_intListG (xs:=xs) (I.ok.hd hc) (by rw[<- e];exact p.isList) λh' tk t' k=>⟨.int ns.sum,H,I.kept k,⟨t',?_⟩,q⟩
 rw[preSum_eq,List.take_of_length_le (by simp),en]
theorem TB(hc:X.calm=true):j5 X (.builtin "max") (λxs H Q=>∃a,∃(ns:List Int) (M:Int),xs=[.ref a]/\eT X.K H a (ns.map V.int)/\M∈ns/\(∀x∈ns,x<=M)/\Q (.int M) H):=by
 intro pins s Z H xs us Q I r h;obtain⟨a,ns,M,rfl,ha,hm,hM,q⟩:=h;obtain⟨u,rfl,ru⟩:=vals1 r;cases ru;obtain⟨aL,rv,p,hz⟩:=I.list ha;obtain⟨xs,e,en⟩:=EO (E8 rv);have hsz:0<xs.size:=by
  have:=List.length_pos_of_mem hm;rw[en,ay,bP] at this;exact this
 refine max_intList (xs:=xs) (I.ok.hd hc) (by rw[<- e];exact p.isList) hsz λv h' tk hv k=>?_;obtain⟨t,rfl⟩:=intItems_at hv;obtain⟨h1,h2⟩:=argBest_gt (numAt xs) (xs.size-1);generalize argBest (λi j=>decide (numAt xs i>numAt xs j)) (xs.size-1)=j0 at *;have m1:numAt xs j0∈ns:=by rw[en,numAt_eq];exact getD_mem (by rw[ay,bP];omega)
 have m2:M<=numAt xs j0:=by
  rw[en] at hm;obtain⟨j,hj,rfl⟩:=mem_getD hm;rw[ay,bP] at hj;rw[<- numAt_eq];exact h2 j (by omega)
 have e2:numAt xs j0=M:=Int.le_antisymm (hM _ m1) m2;exact⟨.int M,H,I.kept k,⟨t,by rw[e2]⟩,q⟩
theorem Tw(hc:X.calm=true):j5 X (.builtin "all") (λxs H Q=>∃(a:Addr) (ns:List Int),xs=[.ref a]/\eT X.K H a (ns.map V.int)/\Q (.bl (ns.all λn=>n != 0)) H):=by
 intro pins s Z H xs us Q I r h;obtain⟨a,ns,rfl,ha,q⟩:=h;obtain⟨u,rfl,ru⟩:=vals1 r;cases ru;obtain⟨aL,rv,p,hz⟩:=I.list ha;refine call_all_walk ?_;refine gP p.isList ?_;have eR:a≠s.heap.objs.size:=by
  obtain⟨o,e,_⟩:=id p.isList;exact aE (aq e)
 have hl:=rv.length;rw[ay] at hl;refine⟨s.heap.objs.size,_,_,_,_,_,λi=>ns.getD i 1 != 0,rfl,Walks.list (A:=X.A.in1) (I.ok.hd hc) _ a eR aL.toArray,⟨⟨_,au _ rfl,rfl,rfl⟩,?_⟩,?_,λh' tk k=>?_⟩
 ·obtain⟨o,e,q1⟩:=id p.isList;exact⟨o,ah _ e,q1⟩
 ·intro i v s' Q' E' hP hQ;have hv:aL[i]?=some v:=by simpa using hP
  have hi:i<ns.length:=by rw[hl];exact(ax.mp hv).1
  obtain⟨u',rA,wy⟩:=rv.get (i:=i) (x:=V.int ns[i]) (by rw[aF,az hi];rfl);rw[hv] at rA;cases rA;obtain⟨t,rfl⟩:=wy;refine truthy_int ?_;have:ns.getD i 1=ns[i]:=by simp[List.getD,hi]
  dsimp only at hQ;rw[this] at hQ;exact hQ
 ·have e1:(List.range aL.toArray.size).all (λi=>ns.getD i 1 != 0)=ns.all λn=>n != 0:=by
   rw[av,<- hl];rw[bY];simp only[List.all_eq_true,List.mem_range];constructor
   ·intro hh x hx;obtain⟨i,hi,rfl⟩:=dw.mp hx;have:=hh i hi;simpa[List.getD,hi] using this
   ·intro hh i hi;have:=hh ns[i] (eU hi);simpa[List.getD,hi] using this
  rw[e1];exact ⟨.bl _,H,I.kept (t':=tk) λb o e=>k b o (by
   intro hb;have:b=s.heap.objs.size:=by simpa using hb
   exact absurd (aq e) (by rw [this];exact aX _)) (ah _ e),rfl,q⟩
theorem SK:j5 X (.builtin "len") (λxs H Q=>∃a,∃ks:List Int,xs=[.ref a]/\H a=some (pC X a ks)/\Q (.int ks.length) H):=by
 intro pins s Z H xs us Q I r h;obtain⟨a,ks,rfl,ha,q⟩:=h;obtain⟨u,rfl,ru⟩:=vals1 r;cases ru;have hS:ST.m5 X.prog X.w s.heap a ks:=(I.br a _ ha).1;obtain⟨o,es,ep,t,e,ex,ed,_,hp,nd,hz,hf,_⟩:=hS;have hl:es.size=ks.length:=by have:=hp.length_eq;simpa using this
 refine call_len_set e ex ed hf (by have:scanBound<2 ^ 62:=(by decide);omega) ⟨.int ks.length,H,I.tok _,⟨_,by rw[hl]⟩,q⟩
theorem Nt{i:Int}{j:Nat}{p pos:Pos}(lO:PySem.W.kdsCode X.K X.env.code=true):PE X (.Set [.Constant (.int i) j p] 0 pos) (λZ H Q=>∀q,H q=none->Q (.ref q) (upd H q (.set (λk=>decide (k=i)) 1))):=by
 intro pins s Z H Q I h;rw[arm_eval_Set];refine aa (cH ?_);refine aa (PySem.W.kds_main I.fE lO λb=>?_);rw[PySem.W.kds_star _ (by rfl),cB];refine PySem.W.kds_core (ts:=(evalEach [Expr.Constant (.int i) j p] X.env).map λt=>do let v <- t;standAt pos;pure v) (by rfl) (by rfl) (by show 1<=30;decide) (by rw[cB];rfl) λled=>?_;refine PySem.W.kds_all pos _ _ _ ?_;show wpAny _ _ (eval (.Constant (.int i) j p) X.env) _ _ _;refine wpAny_Constant_int ?_;refine PySem.W.kds_fill_cons ?_;have IU:(s.heap.push { cls:=.type "set",dict:=none,data:=.set #[] 0 (.fresh 0 0 led) }).SetOf (intKind X.prog X.w) s.heap.objs.size (λ_=>false) 0:=(setObjOf_fresh led).setOf (au _ rfl) (by decide);unfold setAdd;refine bj (aa ((intKind X.prog X.w).pyHash (k:=i) (dO _ _ _ _) ?_));refine wpAny_setAddHashed_of (knd:=intKind X.prog X.w) (dO _ _ _ _) rfl IU (by decide) λh' xg ka=>?_;refine PySem.W.kds_fill_nil (by rfl) ?_;have kp:∀b u,s.heap.get? b=some u->h'.get? b=some u:=λb u e=>(xg.2 b (aE (aq e))).trans (ah _ e);exact⟨.ref s.heap.objs.size,_,I.laid (a:=s.heap.objs.size) (o:=.set (λk=>decide (k=i)) 1) kp (aj _) (by show Heap.SetOf _ _ _ _ _;simpa using ka),rfl,h _ (I.br.fresh (aj _))⟩
theorem Ur:eY X (compareOp .In) (λx y H Q=>∃i a S n,x=.int i/\y=.ref a/\H a=some (.set S n)/\Q (.bl (S i)) H):=by
 intro pins s Z H x y v u Q I rx ry h;obtain⟨i,a,S,n,rfl,rfl,ha,q⟩:=h;obtain⟨t,rfl⟩:=rx;cases ry;exact wpAny_inSet_of (knd:=intKind X.prog X.w) (k:=i) (dO _ _ _ _) rfl (I.br a _ ha) ⟨.bl (S i),H,I.tok _,rfl,q⟩
theorem SG:eY X (compareOp .NotIn) (λx y H Q=>∃i a S n,x=.int i/\y=.ref a/\H a=some (.set S n)/\Q (.bl (!S i)) H):=by
 intro pins s Z H x y v u Q I rx ry h;obtain⟨i,a,S,n,rfl,rfl,ha,q⟩:=h;obtain⟨t,rfl⟩:=rx;cases ry;exact wpAny_notInSet_of (knd:=intKind X.prog X.w) (k:=i) (dO _ _ _ _) rfl (I.br a _ ha) ⟨.bl (!S i),H,I.tok _,rfl,q⟩
theorem Vn:jR X "set.add" (λx xs H Q=>∃a i S n,x=.ref a/\xs=[.int i]/\H a=some (.set S n)/\n+1<4096/\Q .bc (upd H a (.set (λk=>S k||decide (k=i)) (if S i then n else n+1)))):=by
 intro pins s Z H x vs v us Q I rx rv h;obtain⟨a,i,S,n,rfl,rfl,ha,hn,q⟩:=h;cases rx;obtain⟨u,rfl,t,rfl⟩:=rv.one;refine call_set_add (knd:=intKind X.prog X.w) (k:=i) (dO _ _ _ _) rfl (I.br a _ ha) (show n+1<scanBound from hn) λh' xg ka=>?_;obtain⟨o,es,ep,tb,ho,_⟩:=id ka;exact⟨.bc,_,I.write (x:=a) (e:=a) (o:=.set (λk=>S k||decide (k=i)) (if S i then n else n+1)) (by rw[ha];trivial) (.inl rfl) (λb u hb e=>(xg.2 b hb).trans e) ⟨o,ho⟩ ka,rfl,q⟩
def Av(K:PySem.W.Frag)(a:Addr)(n:Nat):It :=
 ⟨λi H=>∃xs x,eT K H a xs/\xs.length=n/\i<n/\xs[n-1-i]?=some x,λi H x H'=>H'=H/\∀xs,eT K H a xs->xs[n-1-i]?=some x,λi H=>n<=i⟩
theorem Yj{P:Program}{w:World}{K:PySem.W.Frag}{tg:Expr}(a it:Addr)(n:Nat):Turn P w K tg (Av K a n) [it] it (λi h=>i<=n/\h.IsRevIter it a ((n:Int)-1-(i:Nat))) where
 mem:=by simp
 obj:=λi h st b hb=>by
  have e:b=it:=by simpa using hb
  subst e;obtain⟨o,e,c,d⟩:=st.2;exact⟨o,e,λv z=>by rw[d] at z;cases z⟩
 keep:=λi h h' st k=>⟨st.1,st.2.at λo e=>k it (by simp) o e⟩
 item:=by
  intro X hP hw hK hc i pins s Z H E I hf st hg;subst hP hw hK;obtain⟨xs,x,hq,hn,hi,hx⟩:=hg;obtain⟨aL,rv,p,hz⟩:=I.list hq;obtain⟨u,hu,ru⟩:=rv.get hx;obtain⟨f0,f1,f2,f3,f4,f5⟩:=hf it (by simp);have iP:=st.2;rw[show(n:Int)-1-(i:Nat)=((n-1-i:Nat):Int) by omega] at iP;refine wpAny_pyNext_rev_item iP p.isList (x:=u) (by simpa using hu) λh' ko sb=>?_;have I1:Inv X pins Z H { s with heap:=h' }:=I.turned (t':=s.toks) (λb o hb e=>(sb.2 b hb).trans e) f0 f1 f3 f4 f5;obtain⟨o,e,c,d⟩:=id ko;refine⟨u,rfl,uV (s:={ s with heap:=h' }) e c d (by decide) ⟨x,H,I1,ru,⟨rfl,λys hy=>by rw[I.zb hy hq];exact hx⟩,⟨by omega,?_⟩,λb hb=>(hf b hb).1⟩⟩;rw[show(n:Int)-1-((i+1:Nat):Int)=((n-1-i:Nat):Int)-1 by omega];exact ko
 done:=by
  intro X hP hw hK hc i pins s Z H E I hf st hg;subst hP hw hK;obtain⟨f0,f1,f2,f3,f4,f5⟩:=hf it (by simp);have iP:=st.2;have:n<=i:=hg;rw[show(n:Int)-1-(i:Nat)=-1 by have:=st.1;omega] at iP;exact wpAny_pyNext_rev_end (I.ok.hd hc) iP λh' eb=>⟨rfl,I.turned (t':=s.toks) (λb o hb e=>eb b o hb e) f0 f1 f3 f4 f5⟩
 self:=λ_ _ _ _ _ st h=>wpAny_pyIter_revIter st.2 h
theorem boot_reversed:bootBuiltins "reversed"=some (.type "reversed"):=by decide +kernel
theorem KU{tg l:Expr}{ta:TA}{p pos:Pos}(hg:Gl X "reversed")(hm:X.mg "reversed"=none)(ha:PA X [l] ta)(hs:starEach [l] X.env=[(false,eval l X.env)]) :
  PI X tg (.Call (.Name "reversed" p) [l] [] pos) (λZ H R=>ta Z H λvs H1=>∃a xs,vs=[.ref a]/\eT X.K H1 a xs/\R (Av X.K a xs.length) H1):=by
 intro pins s Z H R I h;refine Call_ (K6 I hg hm boot_reversed (bB (bS (ha pos pins s Z H _ I h) λus s1 aS=>?_) hs rfl));obtain⟨vs,H1,I1,r1,q1⟩:=aS;obtain⟨a,xs,e,hq,q⟩:=q1;subst e;cases r1 with
 |cons r rr =>
  cases rr;cases r;obtain⟨aL,rv,p,hz⟩:=I1.list hq;refine call_reversed_list p.isList ?_;have hl:=rv.length;have hit:(s1.heap.push (revObj a ((aL.toArray.size:Int)-1))).IsRevIter s1.heap.objs.size a ((xs.length:Int)-1-((0:Nat):Int)):=⟨_,au _ rfl,rfl,by simp[revObj,hl]⟩
  refine wpAny_pyIter_revIter hit ?_;refine⟨s1.heap.objs.size,[s1.heap.objs.size],_,_,H1,rfl,I1.kept (t':=s1.toks) λb o e=>ah _ e,Yj a _ xs.length,⟨bX _,hit⟩,λb hb=>?_,q⟩;have e:b=s1.heap.objs.size:=by simpa using hb
  subst e;exact I1.Y8 (aj _) (I1.br.fresh (aj _))
end L2
namespace ST
open PySem PyProof.Rows
section
variable{prog:Program}{w:World}{A:Around}{E:Value->Shared->Prop}{s:Shared}{a:Addr}
theorem Vy{T:String}{o:Obj}{items:Array Value}{n:Nat}{ns:List Int}(hT:T="list"\/T="tuple")(ho:s.heap.get? a=some o)(hc:o.cls=.type T)(hd:o.data=.seq items n)(hI:IntsAre items.toList ns)(xP:ns.length<60){Q:Value->Shared->Prop}(h:∀(h1:Heap) (vs:List Value) (iS:List Int) e h',(∀b o',s.heap.get? b=some o'->h1.get? b=some o')->IntsAre vs iS->iS.Perm ns->iS.Pairwise (·<=·)->h'.get? h1.objs.size=some (seqObj "list" vs.toArray e)->(∀c o,h1.get? c=some o->h'.get? c=some o)->Q (.ref h1.objs.size) { s with heap:=h' }) :
  wpAny (model prog w) A (call (.builtin "sorted") [.ref a]) Q E s:=by
 have hl:items.toList.length=ns.length:=Y4 hI;refine gK kind_sorted plain_sorted entry_sorted (args_sorted1 _) ?_;unfold Builtin.«sorted»;refine aa (m:=checkCount "sorted" 1 1 _) (ai ?_);refine aa (wpAny_collect_seq (A:=A.in1) a hT ho hc hd (λh1 kp=>?_) (by simp at hl;unfold sizeLine;omega));have pU:items.toList.length<64:=by omega
 generalize items.toList=vs at *;refine aa (GU (s:={ s with heap:=h1 }) ?_);have kz:(h1.push (seqObj "list" vs.toArray 0)).get? h1.objs.size=some (seqObj "list" vs.toArray 0):=au _ rfl;refine aa (bj (bD (s:={ s with heap:=h1.push (seqObj "list" vs.toArray 0) }) slot_list_sort ⟨_,kz,rfl⟩ entry_list_sort (list_sort_tree kz hI pU λout iS a1 a2 a3=>⟨_,rfl,?_⟩) (args_list_sort _)));obtain⟨e,oO⟩:=sortedHeap_at (vs:=vs) (out:=out) kz;refine ai ⟨_,rfl,h h1 out.toList iS e _ kp a1 a2 a3 oO (λc o' e'=>?_)⟩;have hc:=aq e';rw[sortedHeap_old (aE hc) (by rw[gn];exact jH hc)];exact ah _ e'
end
end ST
namespace L2
open PySem PyProof.Rows
def J7(ns:List Int):List Int:=ns.mergeSort (λa b=>decide (a<=b))
theorem EI(ns:List Int):(J7 ns).Pairwise (·<=·):=by
 have:=pM (le:=λa b:Int=>decide (a<=b)) (λa b c h1 h2=>by simp at *;omega) (λa b=>by simp;omega) ns;exact this.imp λh=>by simpa using h
theorem X0(ns:List Int):(J7 ns).Perm ns:=AD _ _
section
variable{X:Cx}
theorem Td:j5 X (.builtin "sorted") (λxs H Q=>∃p,∃ns:List Int,xs=[.ref p]/\(eT X.K H p (ns.map V.int)\/gw X.K H p (ns.map V.int))/\ns.length<60/\∀l,H l=none->Q (.ref l) (upd H l (.lst ((J7 ns).map V.int)))):=by
 intro pins s Z H xs us Q I r h;obtain⟨p,ns,rfl,hq,hl,q⟩:=h;obtain⟨u,rfl,rx⟩:=vals1 r;cases rx;obtain⟨T,aL,o,n,hT,r',ho,hc,hd⟩:∃T,∃(aL:List Value) (o:Obj) (n:Nat),(T="list"\/T="tuple")/\Vals (ns.map V.int) aL/\s.heap.get? p=some o/\o.cls=.type T/\o.data=.seq aL.toArray n:=by
  rcases hq with hq|hq
  ·obtain⟨aL,r',pl,_⟩:=I.list hq;obtain⟨o,ho,hc,n,hd⟩:=pl.isList;exact⟨_,aL,o,n,.inl rfl,r',ho,hc,hd⟩
  ·obtain⟨aL,r',⟨o,ho,hc,n,hd⟩,_⟩:=I.tuple hq;exact⟨_,aL,o,n,.inr rfl,r',ho,hc,hd⟩
 refine ST.Vy hT ho hc hd (E8 r') hl λh1 vs iS e h' kp i1 i2 i3 i4 i5=>?_;have e1:iS=J7 ns:=I9 (i2.trans (X0 ns).symm) i3 (EI ns);subst e1;have I1:Inv X pins Z H { s with heap:=h1 }:=I.kept (t':=s.toks) kp;have hz:(J7 ns).length<=10000:=by rw[(X0 ns).length_eq];omega
 exact⟨.ref h1.objs.size,_,(I1.laid (a:=h1.objs.size) (o:=.lst ((J7 ns).map V.int)) (t':=s.toks) i5 (aj _) ⟨by rw[ay];exact aI hz (by decide),vs,e,V9 i1,i4⟩),rfl,q _ (I1.br.fresh (aj _))⟩
theorem Ek:∀{ks:List Key} {l:List Value},l.length=ks.length->(∀(i:Nat) v,l[i]?=some v->∃k,ks[i]?=some k/\T1 k v=true)->Vals (ks.map kV) l
 |[],[],_,_=>.nil
 |k::ks,v::l,hl,h=>by
  obtain⟨k',e,hk⟩:=h 0 v rfl;cases e;refine .cons ?_ (Ek (by simpa using hl) λi v e=>h (i+1) v e);rcases k6 hk with⟨i,t,rfl,rfl⟩|⟨x,t,rfl,rfl⟩<;>exact⟨t,rfl⟩
theorem Tc(hc:X.calm=true):j5 X (.type "list") (λxs H Q=>∃a kvs,xs=[.ref a]/\H a=some (.dK kvs)/\kvs.length<=10000/\∀p,H p=none->Q (.ref p) (upd H p (.lst ((kvs.map (·.1)).map kV)))):=by
 intro pins s Z H xs us Q I r h;obtain⟨a,kvs,rfl,ha,hl,q⟩:=h;obtain⟨u,rfl,rx⟩:=vals1 r;cases rx;obtain⟨_,hd,vs,kv,hD⟩:=qo I.br ha;obtain⟨ep,hA⟩:=hD.dictAt;have pU:vs.length<=10000:=by rw[<- kv.length];exact hl
 refine PySem.W.kdl_call (PySem.W.kdl_dict (kvs:=vs) (ep:=ep) hd) (I.ok.hd hc) hA (aI pU (by decide)) λh' tk acc c k1 k2 k3=>?_;have hv:Vals ((kvs.map (·.1)).map kV) acc.toList:=by
  refine Ek (by rw[bP,k3.1,ay,kv.length]) λi v e=>?_;obtain⟨k,x,e1,e2⟩:=k3.2 i v (by simpa using e);exact⟨k,by rw[kv.keys,aF,e1];rfl,e2⟩
 exact⟨.ref s.heap.objs.size,_,(I.laid (a:=s.heap.objs.size) (o:=.lst ((kvs.map (·.1)).map kV)) (t':=tk) k1 (aj _) ⟨by rw[ay,ay];exact aI hl (by decide),acc.toList,c,hv,by simpa using k2⟩),rfl,q _ (I.br.fresh (aj _))⟩
end
end L2
namespace ST
open PySem PyProof.Rows
end ST
namespace L2
open PySem PyProof.Rows
section
variable{X:Cx}
theorem NU{h:Heap}{a:Addr}{ns:List Int}(x:ST.m5 X.prog X.w h a (ST.f6 [] ns)):h.SetOf (intKind X.prog X.w) a (λk=>decide (k∈ns)) (ST.f6 [] ns).length:=by
 obtain⟨o,es,ep,t,ho,hx,hd,lN,hp,hn,hb,hf,hw⟩:=x;refine⟨o,es,ep,t,ho,hx,hd,lN,λk=>?_,hb,hf,by rw[<- hp.length_eq];simp⟩;have mem:k∈ns↔k∈es.toList.map λe=>ST.toI e.2:=by rw[hp.mem_iff,ST.ED];simp
 rw[dW,mem];constructor
 ·intro z;obtain⟨e,he,rfl⟩:=aC.mp z;obtain⟨tk,h1,_⟩:=ST.vA lN he;refine⟨e,he,?_⟩;rw[h1];exact dO _ _ _ _
 ·rintro⟨e,he,z⟩;obtain⟨tk,h1,_⟩:=ST.vA lN he;refine aC.mpr ⟨e,he,?_⟩;have h2:(intKind X.prog X.w).is (ST.toI e.2) e.2=true:=by rw[h1];exact dO _ _ _ _
  exact(intKind X.prog X.w).inj _ _ _ h2 z
theorem SM(hc:X.calm=true):j5 X (.type "set") (λxs H Q=>∃a ns,xs=[.ref a]/\eT X.K H a (ns.map V.int)/\ns.length<600/\∀p,H p=none->Q (.ref p) (upd H p (.set (λk=>decide (k∈ns)) (ST.f6 [] ns).length))):=by
 intro pins s Z H xs us Q I r h;obtain⟨a,ns,rfl,hq,hl,q⟩:=h;cases r with
 |cons r rr =>
 cases rr;cases r;obtain⟨aL,rv,p,hz⟩:=I.list hq;have hI:=E8 rv;have hlen:=ST.Y4 hI;refine ST.Gx (ns:=ns) (I.ok.hd hc) (.inl p.isList) (by simpa using hI) (by rw[av,hlen];exact ak (Zx hl) (by decide)) λh' tk hS hk _=>?_;exact⟨.ref _,_,I.laid (a:=s.heap.objs.size) (o:=.set (λk=>decide (k∈ns)) (ST.f6 [] ns).length) (t':=tk) hk (aj _) (NU hS),rfl,q _ (I.br.fresh (aj _))⟩
end
end L2
namespace L2
open PySem PySem.Spec PyProof.Rows
variable{w:World}{kx vx iter:Expr}{ifs:List Expr}{scope:Scope}{pos:Pos}
section
variable{prog:Program}{A:Around}{R:Result->Shared->Prop}{s:Shared}
theorem SO{target:Expr}{it:Value}{D:Addr}{env:Env}(I:Nat->Shared->Prop)(turn:∀ n s,I n s->wpAny (model prog w) A (pyNext it) (λr bx=>match r with
   |none=>R (.ok .next) bx
   | some v=>wpAny (model prog w) A (letOwnedTupleGo target it v) (λ_ bx=>wpAny (model prog w) A (assign target env v) (λ_ eJ =>
     wpAny (model prog w) A (forIn ifs true λc r=>if r=true then do let ok <- isTrue c env (eval c env);pure (ForInStep.yield ok) else pure (ForInStep.yield r)) (λok cY =>
      if ok=true then wpAny (model prog w) A (eval kx env) (λkv gg=>wpAny (model prog w) A (eval vx env) (λvv jn =>
       wpAny (model prog w) A (dictSet D kv vv) (λ_ qI=>∃ m,m < n/\I m qI) (λ_ _=>False) jn) (λ_ _=>False) gg) (λ_ _=>False) cY
      else ∃ m,m < n/\I m cY) (λ_ _=>False) eJ) (λ_ _=>False) bx) (λ_ _=>False) bx) (λ_ _=>False) s)(n:Nat)(h:I n s) :
  codeAny (model prog w) A (.compLoop (.DictComp kx vx [⟨target,iter,ifs,0⟩] scope pos) 0 it (.ref D) env) R s:=by
 refine Zu rfl I (λn s hI=>?_) n h;show wpAny _ A ((compTurn (.DictComp kx vx [⟨target,iter,ifs,0⟩] scope pos) 0 it (.ref D) env).onRaise (λx=>do noteFrame x env;theTreesLotGoes x)) _ _ s;refine wpAny_noted ?_;rw[compTurn_dict];refine aa (cH (aa (aV (turn n s hI) (λr bx cu=>?_) λ_ _ h'=>h'.elim)));cases r with
 |none=>exact ai cu
 |some v =>
  refine aa (aV cu (λ_ bx cu=>?_) λ_ _ h'=>h'.elim);refine aa (aV cu (λ_ eJ fT=>aa (aV fT (λok cY jt=>?_) λ_ _ h'=>h'.elim)) λ_ _ h'=>h'.elim);cases ok with
  |false=>exact wpAny_pure ⟨rfl,jt⟩
  |true =>
   exact aa (aa (aV jt (λkv gg lI=>aa (bj (aV lI (λvv jn lH=>aa (cH (bj (aV lH (λ_ qI wR=>ai ⟨rfl,wR⟩) λ_ _ h'=>h'.elim)))) λ_ _ h'=>h'.elim))) λ_ _ h'=>h'.elim))
end
def LY(wi:TI)(a9:List Nat)(n:Nat)(g:TG)(tc:TT)(tk tv:TE):TE:=λZ H Q=>wi Z H λJ H1=>∃W:Nat->Nat->List (Key×V)->St->Hp->Prop,(∃m,W 0 m [] (o7 Z a9 n) H1)/\∀i m ys Z H,W i m ys Z H ->
 (J.stop i H/\∀p,H p=none->Q (.ref p) (upd H p (.dK ys))) \/
 (J.go i H/\ys.length < 1000/\∀ x H',J.mM i H x H'->g x Z H' λcj H2=>tc cj H2 λb H3 =>
  if b=true then tk cj H3 λy H4=>∃ k,y=kV k/\tv cj H4 λv H5=>∃ m',m' < m/\W (i + 1) m' (putK ys k v) cj H5 else ∃ m',m' < m/\W (i + 1) m' ys cj H3)
theorem L8{P:Program}{k:Key}{u:Value}(h:(d7 P w).is k u=true):RelV (kV k) u:=by
 rw[EE] at h;rcases k6 h with⟨j,t,e1,e2⟩|⟨x,t,e1,e2⟩
 ·subst e1 e2;exact⟨t,rfl⟩
 ·subst e1 e2;exact⟨t,rfl⟩
section
variable{X:Cx}{pins:List (Addr×Obj)}{Z:St}{H:Hp}{s:Shared}
theorem VN{tg:Expr}{N':List Str}{a9:List Nat}{cl:List (Str×Addr)}{it:Addr}{fp:List Addr}{tn:Nat->Heap->Prop}{J:It}{g:TG}{tc:TT}{tk tv:TE}{RR:Value->Addr->Result->Shared->Prop}{E:Value->Shared->Prop}{W:Nat->Nat->List (Key×V)->St->Hp->Prop}{m0:Nat}{Q:VK}(S:cx X scope N' a9 cl)(hc:X.calm=true)(hg:∀C s H,PG (a5 X pins scope N' cl C s H fp) tg g)(ht:∀C s H,jf (a5 X pins scope N' cl C s H fp) ifs tc)(hk:∀C s H,PE (a5 X pins scope N' cl C s H fp) kx tk)(hv:∀C s H,PE (a5 X pins scope N' cl C s H fp) vx tv)(I:Inv X pins Z H s)(T:Turn X.prog X.w X.K tg J fp it tn)(st:tn 0 s.heap)(hf:∀b∈fp,p9 X pins H b)(w0:W 0 m0 [] (o7 Z a9 N'.length) H)(turn:∀ i m ys Z H,W i m ys Z H->(J.stop i H/\∀ p,H p=none->Q (.ref p) (upd H p (.dK ys))) \/
   (J.go i H/\ys.length < 1000/\∀ x H',J.mM i H x H'->g x Z H' λcj H2=>tc cj H2 λb H3 =>
    if b=true then tk cj H3 λy H4=>∃ k,y=kV k/\tv cj H4 λv H5=>∃ m',m' < m/\W (i + 1) m' (putK ys k v) cj H5 else ∃ m',m' < m/\W (i + 1) m' ys cj H3))(xc:∀D,s.heap.objs.size<=D->(D==sysModules)=false)(se:∀D C s' H' m,Inv X pins Z H' s'->Q (.ref D) H'->s'.heap.Ns C m->H' C=none->s.heap.objs.size<=C->RR (.ref D) C (.ok .next) s') :
  wpAny (model X.prog X.w) X.A newDict (λacc cY=>wpAny (model X.prog X.w) X.A (newFunctionEnv scope X.env.globals cl [] X.env.qual none .none (some X.env)) (λiY gg =>
   codeAny (model X.prog X.w) X.A (.compStart (.DictComp kx vx [⟨tg,iter,ifs,0⟩] scope pos) 0 (.ref it) acc { iY with scope:=relabel scope X.env }) (RR acc iY.locals) gg) E cY) E s:=by
 refine bz (N3 λcu et dh ju=>?_);dsimp only at et dh ju ⊢;generalize kc:s.heap.push { cls:=.type "dict",dict:=none,data:=.dict #[] }=H2 at et dh ju ⊢;generalize eD:s.heap.objs.size=D at *;have hC:H2.objs.size=D+1:=by rw[<- kc,cP,eD]
 generalize eC:H2.objs.size=C at *;have nN:D≠C:=by omega
 have lt:∀b o,s.heap.get? b=some o->b<D:=λb o e=>by rw[<- eD];exact aq e
 have lE:D<=C:=by omega
 have mf:∀b o,s.heap.get? b=some o->b≠C:=λb o e=>aE (ak (lt b o e) lE);have js:∀b o,s.heap.get? b=some o->b≠D:=λb o e=>aE (lt b o e);have old:∀b o,s.heap.get? b=some o->cu.get? b=some o:=λb o e=>dh b o (kc▸ah _ e);have gO:cu.get? D=some { cls:=.type "dict",dict:=none,data:=.dict #[] }:=dh _ _ (by rw[<- kc,<- eD];exact au _ rfl);have oK:cu.DictOf (d7 X.prog X.w) D []:=(show(s.heap.push { cls:=.type "dict",dict:=none,data:=.dict #[] }).DictOf (d7 X.prog X.w) D [] by rw[<- eD];exact Heap.DictOf.new s.heap).at λo e=>dh _ _ (kc▸e);have fU:∀b∈fp,∃o,s.heap.get? b=some o:=λb hb=>by
  obtain⟨o,e,_⟩:=T.obj _ _ st b hb;exact⟨o,e⟩
 have nM:D∉fp:=λhm=>by
  obtain⟨o,e⟩:=fU D hm;exact js D o e rfl
 have X1:Inv (a5 X pins scope N' cl C s H fp) [] (o7 Z a9 N'.length) H { s with heap:=cu } :=
  I.Z1 S hc hf fU (by rw[eD];omega) ⟨_,et⟩ old ju
 have nB:tn 0 cu:=T.keep _ _ _ st λb _ o e=>old b o e;have sv:∀{H':Hp},(∀b∈fp,H' b=none)->∀b∈fp,p9 (a5 X pins scope N' cl C s H fp) [] H' b:=λhn b hb=>by
  obtain⟨f0,f1,f2,f3,f4,f5⟩:=hf b hb;obtain⟨o,e⟩:=fU b hb;refine⟨hn b hb,?_,?_,.inl hb,λx c q=>(M0 ju q).elim (λl z=>absurd (bW (z▸l) (ak (lt b o e) lE)) (aX _)) λq=>f4 x c (S.cin x c q),λp hp=>?_⟩
  ·exact mf b o e
  ·exact λz=>by
    rcases aw.mp (I.E1 b z) with z|z
    ·exact f1 z
    ·exact f2 z
  ·have fz:p∈X.pn++pins:=by simpa[a5] using hp
   exact f5 p fz
 have fD:∀{H':Hp},H' D=none->p9 (a5 X pins scope N' cl C s H fp) [] H' D:=λhn=>by
  refine⟨hn,nN,λz=>?_,.inr (by show s.heap.objs.size<=D;omega),λx c q=>?_,λp hp=>?_⟩
  ·exact absurd (I.pB (a:=D) (by omega)) λjO=>by
    rcases aw.mp (I.E1 D z) with z|z
    ·exact absurd I.lt (by rw[<- z,eD];exact aX _)
    ·exact jO z
  ·rcases M0 ju q with l|q
   ·exact λz=>absurd (ak (z▸l) lE) (aX _)
   ·obtain⟨v,o,e,_⟩:=I.cell x c (S.cin x c q);exact js c o e
  ·have fz:p∈X.pn++pins:=by simpa[a5] using hp
   exact js _ _ (I.pin p fz).1
 have lz:∀{H':Hp} {s':Shared} {bL:St} {oD:Obj},V6 oD->Inv (a5 X pins scope N' cl C s H fp) [] bL H' s'->H' D=none->s'.heap.get? D=some oD ->
   Inv (a5 X pins scope N' cl C s H fp) [(D,oD)] bL H' s':=λ{H' s' bL oD} gN J0 hn e=>J0.w9 λp hp=>by
  have z:p=(D,oD):=by simpa using hp
  subst z;obtain⟨f0,f1,f2,_⟩:=fD hn;exact⟨e,f0,f1,f2,gN⟩
 have iy:∀{H':Hp} {oD:Obj},(∀b∈fp,H' b=none)->∀b∈fp,p9 (a5 X pins scope N' cl C s H fp) [(D,oD)] H' b:=λ{H' oD} hn b hb=>by
  obtain⟨f0,f1,f2,f3,f4,f5⟩:=sv hn b hb;refine⟨f0,f1,f2,f3,f4,λp hp=>?_⟩;have fz:p∈(a5 X pins scope N' cl C s H fp).pn\/p=(D,oD):=by simpa using hp
  rcases fz with z|z
  ·exact f5 p (cM _ z)
  ·subst z;exact λz=>nM (by rw[show D=b from z];exact hb)
 have loop:∀cY:Shared,cY={ s with heap:=cu } ->
   codeAny (model X.prog X.w) X.A (.compLoop (.DictComp kx vx [⟨tg,iter,ifs,0⟩] scope pos) 0 (.ref it) (.ref D) (compEnvC scope (F0 scope cl C) C X.env)) (RR (.ref D) C) cY:=by
  rintro cY rfl;refine SO (λn s'=>∃ (i:Nat) (ys:List (Key × V)) (bL:St) (H':Hp) (oD:Obj) (rs:List (Key × Value)),Inv (a5 X pins scope N' cl C s H fp) [] bL H' s'/\tn i s'.heap/\(∀ b ∈ fp,H' b=none)/\H' D=none/\ys.length <= 1000/\KV ys rs/\V6 oD /\
   s'.heap.get? D=some oD/\s'.heap.DictOf (d7 X.prog X.w) D rs/\W i n ys bL H') ?_ m0 ⟨0,[],_,H,{ cls:=.type "dict",dict:=none,data:=.dict #[] },[],X1,nB,λb hb=>(hf b hb).1,I.br.fresh (by omega),bX _,Paired.nil,(λv z=>by have z':Data.dict _ _=Data.cell v:=z;cases z'),gO,oK,w0⟩
  rintro n s3 ⟨i,ys,gA,H3,oD,rs,I3,lp,lT,d3,z3,uy,c3,o3,S3,w3⟩;have oh:=lz c3 I3 d3 o3;rcases turn i n ys gA H3 w3 with⟨stop,q⟩|⟨go,hz,step⟩
  ·refine bS (T.done (a5 X pins scope N' cl C s H fp) rfl rfl rfl rfl i _ s3 _ H3 _ oh (iy lT) lp stop) λr s4 ⟨hr,I4⟩=>?_;subst hr;have o4:=(I4.pin (D,oD) (by simp)).1;have J4:Inv X pins Z H3 s4:=I.yY hf I4;have sx:p9 X pins H3 D:=by
    refine⟨d3,bp (by rw[<- eD];exact I.lt),I.pB (by omega),.inr (by have:=I.sz;omega),λx c q=>?_,λp hp=>?_⟩
    ·obtain⟨v,o,e,_⟩:=I.cell x c q;exact js c o e
    ·exact js _ _ (I.pin p hp).1
   obtain⟨mC,rH,_⟩:=I4.loc;have S4:s4.heap.DictOf (d7 X.prog X.w) D rs:=S3.at λo e=>by rw[o3] at e;cases e;exact o4
   have K1:=J4.FG (φ:=λh=>h.DictOf (d7 X.prog X.w) D rs) sx (by have:=I.sz;omega) ⟨S4,⟨_,o4⟩,λh1 h2 x k=>x.at k⟩;have K2:=L9 (t':=s4.toks) (h':=s4.heap) (ob:=.dK ys) K1 (by rw[f9];exact True.intro) ⟨rfl,λ_ _=>rfl⟩ ⟨_,o4⟩ (tI (aI z3 (by decide)) (xc D (by omega)) uy S4);have eu:upd (upd H3 D (.ext λh=>h.DictOf (d7 X.prog X.w) D rs)) D (.dK ys)=upd H3 D (.dK ys):=funext λb=>by
    by_cases hb:b=D
    ·rw[hb,f9,f9]
    ·rw[a7 hb,a7 hb,a7 hb]
   rw[eu] at K2;exact se D C s4 (upd H3 D (.dK ys)) mC K2 (q D d3) rH (by rw[a7 nN.symm];exact I4.free) (by omega)
  ·refine bS (T.item (a5 X pins scope N' cl C s H fp) rfl rfl rfl rfl i _ s3 _ H3 _ oh (iy lT) lp go) λr s4 ⟨u,hr,h4⟩=>?_;subst hr;refine bS h4 λ_ s5 aS=>?_;obtain⟨x,H5,I5,r5,y5,jL,oX⟩:=aS;have o5:=I5.pin (D,oD) (by simp);have pH:=I5.pinned (iy oX) (T.obj _ _ jL);refine bS (hg C s H _ s5 _ H5 x u _ pH r5 (step x H5 y5)) λ_ s6 aS=>?_;obtain⟨iB,H6,I6,q6⟩:=aS;refine bS (ht C s H _ s6 iB H6 _ I6 q6) λok s7 ⟨H7,I7,q7⟩=>?_;have back:∀{nk:St} {H8:Hp} {s8:Shared},Inv (a5 X pins scope N' cl C s H fp) ([(D,oD)]++P7 fp s5.heap) nk H8 s8->(∀b∈fp,H8 b=none)/\tn (i+1) s8.heap/\H8 D=none/\s8.heap.get? D=some oD :=
    λ{nk H8 s8} I8=>by
     have pf:∀b∈fp,∀o,s5.heap.get? b=some o->s8.heap.get? b=some o/\H8 b=none:=λb hb o e=>by
      have:=I8.pin (b,o) (aU _ (aU _ (J8 hb e)));exact⟨this.1,this.2.1⟩
     have pd:=I8.pin (D,oD) (by simp);refine⟨λb hb=>?_,T.keep _ _ _ jL λb hb o e=>(pf b hb o e).1,pd.2.1,pd.1⟩;obtain⟨o,e,_⟩:=T.obj _ _ jL b hb;exact(pf b hb o e).2
   cases ok with
   |false =>
    obtain⟨m',hm,w7⟩:=q7;obtain⟨b1,b2,b3,b4⟩:=back I7;exact⟨m',hm,i+1,ys,iB,H7,oD,rs,I7.w9 λp hp=>absurd hp (by simp),b2,b1,b3,z3,uy,c3,b4,S3.at λo e=>by rw[o3] at e;cases e;exact b4,w7⟩
   |true =>
    refine bS (hk C s H _ s7 iB H7 _ I7 q7) λxk Hq aS=>?_;obtain⟨y,Yp,Yo,Hv,kk,ey,HC⟩:=aS;subst ey;refine bS (hv C s H _ Hq iB Yp _ Yo HC) λxv s8 aS=>?_;obtain⟨v,H8,I8,r8,m',hm,w8⟩:=aS;obtain⟨b1,b2,b3,b4⟩:=back I8;have S8:s8.heap.DictOf (d7 X.prog X.w) D rs:=S3.at λo e=>by rw[o3] at e;cases e;exact b4
    have HQ:rs.length=ys.length:=uy.length.symm;refine wpAny_dictSet_pairs (hsz:=by rw[HQ];exact aI z3 (by decide)) (T3 Hv) S8 λh' S9 sb=>?_;have HR:KV (putK ys kk v) (stored rs kk xv):=uy.put kk r8;obtain⟨o9,JB,JC,g9,x9,d9,r9⟩:=id S9;have c9:V6 o9:=λv z=>by rw[d9] at z;cases z
    have ua:Inv (a5 X pins scope N' cl C s H fp) [] iB H8 s8:=I8.w9 λp hp=>absurd hp (by simp);obtain⟨f0,f1,f2,f3,f4,f5⟩:=fD (H':=H8) b3;have kp:∀b o,b≠D->s8.heap.get? b=some o->h'.get? b=some o:=λb' u hb hu=>by rw[sb.2 b' hb];exact hu
    refine⟨m',hm,i+1,putK ys kk v,iB,H8,o9,_,ua.turned (it:=D) (t':=s8.toks+1) kp f0 f1 f3 f4 f5,T.keep _ _ _ b2 λb hb o e=>kp b o (λz=>nM (by rw[<- z];exact hb)) e,b1,b3,?_,HR,c9,g9,S9,w8⟩;have:=M5 ys kk v;omega
 exact codeAny_compStart_dict (loop _ rfl) (T.self _ 0 _ _ _ nB (loop _ rfl))
theorem Xr{tg:Expr}{N':List Str}{a9:List Nat}{cl:List (Str×Addr)}{wi:TI}{g:TG}{tc:TT}{tk tv:TE}(S:cx X scope N' a9 cl)(hc:X.calm=true)(hi:PI X tg iter wi)(hg:∀pins C s H fp,PG (a5 X pins scope N' cl C s H fp) tg g)(ht:∀pins C s H fp,jf (a5 X pins scope N' cl C s H fp) ifs tc)(hk:∀pins C s H fp,PE (a5 X pins scope N' cl C s H fp) kx tk)(hv:∀pins C s H fp,PE (a5 X pins scope N' cl C s H fp) vx tv)(hs:∀x,foldedSetIterable iter X.env x=pure x):PE X (.DictComp kx vx [⟨tg,iter,ifs,0⟩] scope pos) (LY wi a9 N'.length g tc tk tv):=by
 intro pins s Z H Q I h;rw[arm_eval_DictComp];refine eF (use:=none) rfl hs S.ni S.kind S.names (bS (hi pins s Z H _ I h) λxv bx cu=>bS cu λpP eJ fT=>?_);obtain⟨it,fp,tn,J,H2,e,I2,T,iP,f2,W,⟨m0,w0⟩,turn⟩:=fT;subst e;refine VN (RR:=λacc C=>compPost (model X.prog X.w) X.A X.xe none (EP X pins Z Q) acc C) S hc (λC s H=>hg pins C s H fp) (λC s H=>ht pins C s H fp) (λC s H=>hk pins C s H fp) (λC s H=>hv pins C s H fp) I2 T iP f2 w0 turn (λD hD=>beq_false_of_ne (bp (ak I2.big hD))) ?_;intro D C s' H' m I' q hn hC hsz;exact⟨m,hn,λh' sb=>⟨.ref D,H',I'.zF hsz I2 hC sb,rfl,q⟩⟩
theorem Nr{e:Expr}{T T':TE}(h:PE X e T)(f:∀Z H Q,T' Z H Q->T Z H λx H'=>∃a φ kvs,H' a=some (.ext φ)/\(∀H' h',φ h'->j4 X.prog X.w H' h' a (.dK kvs))/\Q x (upd H' a (.dK kvs))):PE X e T':=by
 intro pins s Z H Q I q;refine bS (h pins s Z H _ I (f Z H Q q)) λv s1 hq=>?_;obtain⟨x,H1,I1,r1,a,φ,kvs,ha,wU,q1⟩:=hq;obtain⟨p1,p2,_⟩:=I1.br a _ ha;exact⟨x,_,L9 (t':=s1.toks) (h':=s1.heap) I1 (by rw[ha];exact True.intro) ⟨rfl,λ_ _=>rfl⟩ p2 (wU _ _ p1),r1,q1⟩
theorem KV.at{kvs:List (Key×V)}{vs:List (Key×Value)}(r:KV kvs vs):∀{i:Nat} {k:Key} {x:V},kvs[i]?=some (k,x)->∃u,vs[i]?=some (k,u)/\RelV x u:=by
 unfold KV at r
 induction r with
 |nil=>intro i k x h;simp at h
 |cons h r ih =>
  intro i k x e;cases i with
  |zero =>
   simp at e;subst e;obtain⟨h1,h2⟩:=h;exact ⟨_,by
    show some _=some (k,_);have yg:k=_:=h1;rw [yg],h2⟩
  |succ i=>simpa using ih (by simpa using e)
theorem VP:entryFor table "dict_itemiterator.__iter__"=some Builtin.«dict_keyiterator.__iter__» :=
 vV (id':="dict_keyiterator.__iter__") (by kernel_rfl) rfl (by decide +kernel) (by kernel_rfl)
def GO(φ:Heap->Prop)(a:Addr)(kvs:List (Key×V)):It :=
 ⟨λi H=>H a=some (.ext φ)/\i<kvs.length,λi H v H'=>∃p k x,H p=none/\v=.ref p/\kvs[i]?=some (k,x)/\H'=upd H p (.tup [kV k,x]),λi H=>H a=some (.ext φ)/\kvs.length<=i⟩
theorem VB{P:Program}{K:PySem.W.Frag}{elts:List Expr}{x1:Nat}{tp:Pos}(a it:Addr){kvs:List (Key×V)}(vs:List (Key×Value))(ep:Nat)(rel:KV kvs vs) :
  Turn P w K (.Tuple elts x1 tp) (GO (λh=>h.DictAt (d7 P w) a vs ep) a kvs) [it] it (λi h=>∃ok ov,IsItemIter h it a i vs.length ep ok ov) where
 mem:=by simp
 obj:=λi h st b hb=>by
  obtain⟨ok,ov,h1⟩:=st;have z:b=it:=by simpa using hb
  subst z;exact ⟨_,h1,λv z=>by
   have z':Data.fields _=Data.cell v:=z;cases z'⟩
 keep:=λi h h' st k=>by
  obtain⟨ok,ov,h1⟩:=st;exact⟨ok,ov,k it (by simp) _ h1⟩
 item:=by
  intro X hP hw hK hc i pins s Z H E I hf st hg;subst hP hw hK;obtain⟨ok,ov,h1⟩:=st;obtain⟨ha,hi⟩:=hg;have hm:s.heap.DictAt (d7 X.prog X.w) a vs ep:=(I.br a _ ha).1;obtain⟨k,x,hx⟩:∃k x,kvs[i]?=some (k,x):=⟨_,_,az hi⟩
  obtain⟨u,hu,ru⟩:=rel.at hx;obtain⟨f0,f1,f2,f3,f4,f5⟩:=hf it (by simp);refine wpAny_pyNext_items_item h1 hm hu λkey h' kA ho ht hz hk=>?_;refine⟨_,rfl,wpAny_letOwnedTupleGo_items ho λh2 Iy gC=>?_⟩;have gC:Heap.SameBut it h' h2:=gC;have elt:it<s.heap.objs.size:=aq h1;have kp:∀b o,b≠it->s.heap.get? b=some o->h2.get? b=some o:=λb o b1 q=>(gC.2 b b1).trans (hk b o b1 q);have hn:H s.heap.objs.size=none:=I.br.fresh (aj _);have ot:h2.get? s.heap.objs.size=some { cls:=.type "tuple",data:=.seq #[key,u] }:=(gC.2 _ (bp elt)).trans ht;have ne:∀b u',H b=some u'->b≠it:=λb u' q z=>by rw[z,f0] at q;cases q
  have br:fA X.prog X.w (upd H s.heap.objs.size (.tup [kV k,x])) h2:=λb o q=>by
   by_cases hb:b=s.heap.objs.size
   ·subst hb;rw[f9] at q;cases q;exact⟨by show 2<=sizeLine;decide,[key,u],.cons (L8 kA) (.cons ru .nil),_,ot,rfl,⟨_,rfl⟩,rfl⟩
   ·rw[a7 hb] at q;refine(I.br b o q).P2 (λc v hc q'=>?_) (λc q'=>by rw[a7 (d4 q' hn)];exact q') λc ys q'=>by rw[a7 (d4 q' hn)];exact q'
    rcases hc with z|z
    ·subst z;exact kp _ _ (ne _ _ q) q'
    ·exact kp _ _ (ne _ _ z) q'
  have I2:Inv X pins Z (upd H s.heap.objs.size (.tup [kV k,x])) { s with heap:=h2 }:=by
   refine I.step (g':=s.gens) (d':=s.drawn) (t':=s.toks) (ch:=[it]) (λb hb=>?_) (λb o _ _ hb q _=>kp b o (λz=>hb (by simp[z])) q) (λb o _ _ hb q _=>⟨o.slots,kp b o (λz=>hb (by simp[z])) q⟩)
    (λb o _ q n=>by rw[a7 (aE (aq q))];exact n) (λb o hb q=>⟨o,kp b o (λz=>hb (by simp[z])) q⟩)
    (λb ys q=>by rw[a7 (d4 q hn)];exact q) (λb o' ys q=>by rw[a7 (d4 q hn)];exact q) (λb ps q=>⟨#[],by rw[a7 (d4 q hn),q];simp⟩) (λm hm=>?_) br I.bare
   ·have z:b=it:=by simpa using hb
    subst z;exact⟨f3,f1,f4,f5⟩
   ·obtain⟨o,es,ep,ho,r⟩:=hm;exact⟨o,es,ep,kp _ o (bg f1) ho,r⟩
  refine⟨.ref s.heap.objs.size,_,I2,rfl,⟨s.heap.objs.size,k,x,hn,rfl,hx,rfl⟩,⟨key,u,Iy⟩,λb hb=>?_⟩;have z:b=it:=by simpa using hb
  subst z;rw[a7 (aE elt)];exact f0
 done:=by
  intro X hP hw hK hc i pins s Z H E I hf st hg;subst hP hw hK;obtain⟨ok,ov,h1⟩:=st;obtain⟨ha,hi⟩:=hg;have hm:s.heap.DictAt (d7 X.prog X.w) a vs ep:=(I.br a _ ha).1;obtain⟨f0,f1,f2,f3,f4,f5⟩:=hf it (by simp);exact wpAny_pyNext_items_end (I.ok.hd hc) h1 hm (eP (by rw[<- rel.length];exact hi)) λh' eb=>⟨rfl,I.turned (t':=s.toks) (λb o hb e=>eb b o hb e) f0 f1 f3 f4 f5⟩
 self:=λ_ _ s _ _ st h=>by
  obtain⟨ok,ov,h1⟩:=st;have hT:s.TypeIs (.ref it) "dict_itemiterator":=⟨_,h1,rfl⟩
  refine mE hT jc (bD jc hT VP ?_ (PySem.F.args_dict_itemiterator_iter_1 _));show wpAny _ _ (ret (.ref it)) _ _ s;exact ai ⟨_,rfl,"dict_itemiterator",_,hT,PySem.F.slot_dict_itemiterator_next.lookup,h⟩
theorem Xz{o:Expr}{td:TE}{apos tp:Pos}{elts:List Expr}{x1:Nat}(ho:PE X o td)(eX:attributeBase o "items" X.env (eval o X.env)=eval o X.env)(eW:(apos.endLine==pos.line)=true) :
  PI X (.Tuple elts x1 tp) (.Call (.Attribute o "items" apos) [] [] pos) (λZ H R=>td Z H λv H1=>∃a kvs,v=.ref a/\H1 a=some (.dK kvs)/\∀φ:Heap->Prop,(∀H' h',φ h'->j4 X.prog X.w H' h' a (.dK kvs))->R (GO φ a kvs) (upd H1 a (.ext φ))):=by
 intro pins s Z H R I h;refine wpAny_Call_method (T:="dict") (id:="dict.items") eX rfl eW pK pJ PySem.F.type_dict_items (bS (ho pins s Z H _ I h) λu s1 aS=>?_);obtain⟨x,H1,I1,rx,a,kvs,ex,ha,q⟩:=aS;subst ex;obtain rfl:u=Value.ref a:=rx;obtain⟨z,hd,vs,rel,dd⟩:=qo I1.br ha;refine⟨dd.typeIs,dd.mapOf.noDict,?_⟩;show wpAny _ _ (callWith pos (.builtin "dict.items") [.ref a] [] []) _ _ s1;refine method_meetsIn pJ PySem.F.entry_dict_items rfl (AA ⟨rfl,dd.typeIs,PySem.F.args_dict_items_1 _,_,meets_dict_items (d7 X.prog X.w) a hd,⟨vs,dd⟩,?_⟩);obtain⟨o1,es,ep,r1⟩:=dd;have hm:s1.heap.DictAt (d7 X.prog X.w) a vs ep:=⟨o1,es,r1⟩
 have nH:=hm.push { cls:=.type "dict_items",data:=.fields #[.ref a] };have jX:(s1.heap.push { cls:=.type "dict_items",data:=.fields #[.ref a] }).objs.size=s1.heap.objs.size+1:=cP ..;refine wpAny_pyIter_items (v:=s1.heap.objs.size) ⟨_,au _ rfl,rfl,rfl⟩ nH ?_;have kp:∀b o,s1.heap.get? b=some o->((s1.heap.push { cls:=.type "dict_items",data:=.fields #[.ref a] }).push { cls:=.type "dict_itemiterator",data:=.fields #[.none,.bool false,.ref a,.int 0 0,.int vs.length 0,.int ep 0,.none,.none] }).get? b=some o:=λb o e=>ah _ (ah _ e);have I2:=I1.kept (t':=s1.toks) kp;have pT:=nH.push { cls:=.type "dict_itemiterator",data:=.fields #[.none,.bool false,.ref a,.int 0 0,.int vs.length 0,.int ep 0,.none,.none] };have hit:IsItemIter ((s1.heap.push { cls:=.type "dict_items",data:=.fields #[.ref a] }).push { cls:=.type "dict_itemiterator",data:=.fields #[.none,.bool false,.ref a,.int 0 0,.int vs.length 0,.int ep 0,.none,.none] }) (s1.heap.push { cls:=.type "dict_items",data:=.fields #[.ref a] }).objs.size a 0 vs.length ep .none .none:=au _ rfl;obtain⟨o3,Zo,g3,r3⟩:=id pT;have I3:=L9 (t':=s1.toks) (ob:=.ext λh=>h.DictAt (d7 X.prog X.w) a vs ep) I2 (by rw[ha];exact True.intro) ⟨rfl,λ_ _=>rfl⟩ ⟨_,g3⟩ ⟨pT,⟨_,g3⟩,λh1 h2 ⟨o,es,e,r⟩ k=>⟨o,es,k o e,r⟩⟩;refine⟨_,[_],_,_,_,rfl,I3,VB a _ vs ep rel,⟨_,_,hit⟩,λb hb=>?_,q _ λH' h' e=>tI z hd rel (let ⟨o,es,e⟩:=e;⟨o,es,ep,e⟩)⟩;have z:b=(s1.heap.push { cls:=.type "dict_items",data:=.fields #[.ref a] }).objs.size:=by simpa using hb
 have iE:s1.heap.objs.size<=b:=by rw[z,jX];exact fe _
 refine I1.Y8 iE ?_;rw[a7 (bp (ak hm.lt_size iE))];exact I1.br.fresh iE
end
end L2
namespace M
open PySem L2
set_option genInjectivity true in
inductive D where
 |bc|bl (b:Bool)|int (i:Int)|str (x:Str)|ty (n:String)|ref (i:Nat)|tup (l:List D)
set_option genInjectivity true in
inductive O where
 |lst (l:List D)|ng (l:List D)
 |bN (kvs:List (Key×D))
 |ins (c:Str) (fs:List (Str×D))
 |set (S:Int->Bool) (n:Nat)
def O.mut:O->Bool
 |.ng _=>false
 |_=>true
def Q5:D->Option Key
 |.int i=>some (.inl i)
 |.str x=>some (.inr x)
 |_=>none
def E0(kvs:List (Key×D))(k:Key):Option D:=(kvs.find? λkv=>decide (kv.1=k)).map (·.2)
def putD(kvs:List (Key×D))(k:Key)(v:D):List (Key×D) :=
 if(kvs.any λkv=>decide (kv.1=k))=true then kvs.map (λkv=>if kv.1=k then(kv.1,v) else kv) else kvs++[(k,v)]
def u3(f:Str)(v:D):List (Str×D)->List (Str×D)
 |[]=>[(f,v)]
 |(g,x)::r=>if g=f then(g,v)::r else(g,x)::u3 f v r
def sY:List D->Str->Option D
 |.tup [.str y,v]::r,x=>if x=y then some v else sY r x
 |_::_,_=>none
 |[],_=>none
def Y2:List D->Option Str
 |[]=>some Str.empty
 |.str x::r=>(Y2 r).map λy=>x++y
 |_=>none
structure Xn where
 cls:Str
noncomputable abbrev G:=List O
noncomputable abbrev S:=List (Option D)
noncomputable abbrev KD:=D->G->Prop
noncomputable abbrev KX:=Xn->G->Prop
noncomputable abbrev iZ:KX:=λ_ _=>False
def zY:Option O->Option (List D)
 |some (.lst l)=>some l
 |some (.ng l)=>some l
 |_=>none
noncomputable abbrev b7(g:G)(a:Nat):Option (List D):=zY g[a]?
def rd(g:G):Nat->D->Option PyData
 |_,.bc=>some .none
 |_,.bl b=>some (.bool b)
 |_,.int i=>some (.int i)
 |_,.str x=>some (.str x)
 |_,.ty _=>none
 |0,.ref _=>none
 |0,.tup _=>none
 |n+1,.ref a=>match b7 g a with
  |some l=>(l.mapM (rd g n)).map .list
  |none=>none
 |n+1,.tup l=>(l.mapM (rd g n)).map .tuple
def AY(g:G)(l:List D):Option (List PyData):=l.mapM (rd g 6)
def B0(g:G):D->Option (List D)
 |.tup l=>some l
 |.ref a=>b7 g a
 |_=>none
def Y3:D->Bool
 |.bc=>true
 |_=>false
def cut{α:Type}(xs:List α)(lo hi:Option Int):List α:=(xs.drop (HT.df xs.length 0 lo)).take (HT.df xs.length xs.length hi-HT.df xs.length 0 lo)
def pv(g:G)(x:D)(c:String):Option Bool:=match x with
 |.bc=>some (c=="NoneType")
 |.bl _=>some (c=="bool"||c=="int")
 |.int _=>some (c=="int")
 |.str _=>some (c=="str")
 |.tup _=>some (c=="tuple")
 |.ref a=>match g[a]? with
  |some (.lst _)=>some (c=="list")
  |_=>none
 |.ty _=>none
def w6(lo:Int)(n:Nat):List D:=(List.range n).map λ(k:Nat)=>.int (lo+k)
def T5:List D->Option Bool
 |[]=>some true
 |.bl b::r=>(T5 r).map λc=>b&&c
 |_=>none
inductive Pr where
 |bin (op:Operator)|un (op:UnaryOp)|cmp (op:CmpOp)
 |ix|lx (lo hi:Bool)|rev|tup|lst|N7
 |len|list|tuple|isin|all|max|min|int|str|lD|lC|sset|Hl|sD
 |BO|sm|nc|fv|lS|fld (f:Str)
 |append|pop|get|index|join|iadd|clear|oB|extend|any|eK|sum|U0|mS|kq|oE|lU|ic|jW (i:Int)
noncomputable abbrev DR:=List D->G->D->G->Prop
def Ta:Operator->Int->Int->Int->Prop
 |.Add,i,j,r=>r=i+j
 |.Sub,i,j,r=>r=i-j
 |.Mult,i,j,r=>ph i j/\r=i*j
 |.FloorDiv,i,j,r=>Ae i j/\r=i / j
 |.Mod,i,j,r=>0<j/\r=i % j
 |.Pow,i,j,r=>Z7 i j/\r=i ^ j.toNat
 |.LShift,i,j,r=>Z7 i j/\r=i*2 ^ j.toNat
 |.BitAnd,i,j,r=>r=Builtin.bitAnd i j
 |.BitOr,i,j,r=>r=Builtin.bitOr i j
 |_,_,_,_=>False
def OD(op:Operator):DR:=λxs g d g' =>
 (∃i j r,xs=[.int i,.int j]/\Ta op i j r/\d=.int r/\g'=g) \/
 (op=.Add/\((∃ l m,xs=[.tup l,.tup m]/\l.length + m.length <= 100000/\d=.tup (l ++ m)/\g'=g) \/
  (∃a b l m,xs=[.ref a,.ref b]/\g[a]?=some (.lst l)/\g[b]?=some (.lst m)/\l.length+m.length<=100000/\d=.ref g.length/\g'=g++[.lst (l++m)]) \/
  (∃ x y,xs=[.str x,.str y]/\x.length + y.length <= 100000/\d=.str (x ++ y)/\g'=g))) \/
 (op=.Mult/\((∃ a l n,xs=[.ref a,.int n]/\g[a]?=some (.lst l)/\-(2 ^ 62) <= n/\n < 2 ^ 62/\l.length * n.toNat <= 100000/\d=.ref g.length/\g'=g ++ [.lst (List.replicate n.toNat l).flatten]) \/
  (∃ l n,xs=[.tup l,.int n]/\l ≠ []/\1 <= n/\n < 2 ^ 62/\l.length * n.toNat <= 100000/\d=.tup (List.replicate n.toNat l).flatten/\g'=g)))
def He(op:UnaryOp):DR:=λxs g d g'=>op=.USub/\∃i,xs=[.int i]/\d=.int (-i)/\g'=g
def sA(g:G)(x y:D)(b:Bool):Prop :=
 (∃i j,x=.int i/\y=.int j/\b=decide (i=j))\/(∃i j,x=.bl i/\y=.bl j/\b=(i==j))\/(∃i j,x=.str i/\y=.str j/\b=decide (i=j)) \/
 ∃p q,rd g 6 x=some p/\rd g 6 y=some q/\p.canLay0=true/\q.canLay0=true/\b=PyData.eqv p q
def inR(g:G)(x y:D)(b:Bool):Prop :=
 (∃a kvs c,y=.ref a/\g[a]?=some (.bN kvs)/\Q5 x=some c/\b=(E0 kvs c).isSome) \/
 ∃l ps p,B0 g y=some l/\AY g l=some ps/\rd g 6 x=some p/\PyData.canLayAll0 ps=true/\p.canLay0=true/\b=(ps.any λq=>PyData.eqv q p)
def Cs(g:G)(x y:D)(b:Bool):Prop:=∃a S n i,y=.ref a/\g[a]?=some (.set S n)/\x=.int i/\b=S i
def Cd(g:G)(x y:D)(b:Bool):CmpOp->Prop
 |.Eq=>sA g x y b
 |.NotEq=>sA g x y (!b)
 |.In=>inR g x y b\/Cs g x y b
 |.NotIn=>inR g x y (!b)\/Cs g x y (!b)
 |.Lt=>∃i j,x=.int i/\y=.int j/\b=decide (i<j)
 |.LtE=>∃i j,x=.int i/\y=.int j/\b=decide (i<=j)
 |.Gt=>∃i j,x=.int i/\y=.int j/\b=decide (j<i)
 |.GtE=>∃i j,x=.int i/\y=.int j/\b=decide (j<=i)
 |.Is=>y=.bc/\b=Y3 x
 |.IsNot=>y=.bc/\b=!Y3 x
def OJ(op:CmpOp):DR:=λxs g d g'=>∃x y b,xs=[x,y]/\Cd g x y b op/\d=.bl b/\g'=g
def Cu(g:G)(x:D)(b:Bool):Prop :=
 (x=.bc/\b=false)\/x=.bl b\/(∃i,x=.int i/\b=(i != 0))\/(∃l,x=.tup l/\b=!l.isEmpty)\/∃a l,x=.ref a/\b7 g a=some l/\b=!l.isEmpty
def HW:DR:=λxs g d g'=>g'=g/\((∃x l i,xs=[x,.int i]/\B0 g x=some l/\iF l i=some d)\/(∃a kvs y c,xs=[.ref a,y]/\g[a]?=some (.bN kvs)/\Q5 y=some c/\E0 kvs c=some d) \/
 ∃ x i c,xs=[.str x,.int i]/\x.length <= 100000/\iF x.cps.toList i=some c/\d=.str ⟨#[c]⟩)
def qL(x:D)(lo hi:Option Int)(g:G)(d:D)(g':G):Prop:=(∃l,x=.tup l/\d=.tup (cut l lo hi)/\g'=g)\/∃a l,x=.ref a/\b7 g a=some l/\d=.ref g.length/\g'=g++[.lst (cut l lo hi)]
def PU:Bool->Bool->DR
 |false,false,xs,g,d,g'=>∃x,xs=[x]/\qL x none none g d g'
 |true,false,xs,g,d,g'=>∃x i,xs=[x,.int i]/\qL x (some i) none g d g'
 |false,true,xs,g,d,g'=>∃x j,xs=[x,.int j]/\qL x none (some j) g d g'
 |true,true,xs,g,d,g'=>∃x i j,xs=[x,.int i,.int j]/\qL x (some i) (some j) g d g'
def PJ:DR:=λxs g d g'=>(∃l,xs=[.tup l]/\d=.tup l.reverse/\g'=g)\/∃a l,xs=[.ref a]/\b7 g a=some l/\d=.ref g.length/\g'=g++[.lst l.reverse]
def Qq:DR:=λxs g d g'=>xs.length<=1000/\d=.tup xs/\g'=g
def OY:DR:=λxs g d g'=>xs.length<=1000/\d=.ref g.length/\g'=g++[.lst xs]
def qd:List D->List (Key×D)->Option (List (Key×D))
 |[],kvs=>some kvs
 |k::v::r,kvs=>(Q5 k).bind λc=>qd r (putD kvs c v)
 |_,_=>none
def QM:DR:=λxs g d g'=>xs=[]/\d=.ref g.length/\g'=g++[.bN []]
def OW:DR:=λxs g d g'=>g'=g/\((∃x l,xs=[x]/\B0 g x=some l/\d=.int l.length)\/(∃a kvs,xs=[.ref a]/\g[a]?=some (.bN kvs)/\d=.int kvs.length)\/∃x,xs=[.str x]/\x.length<=100000/\d=.int x.length)
def kD:Key->D
 |.inl i=>.int i
 |.inr x=>.str x
def Rk:DR:=λxs g d g'=>(∃x l,xs=[x]/\B0 g x=some l/\d=.ref g.length/\g'=g++[.lst l])\/∃a kvs,xs=[.ref a]/\g[a]?=some (.bN kvs)/\kvs.length<=10000/\d=.ref g.length/\g'=g++[.lst ((kvs.map (·.1)).map kD)]
def Mh:DR:=λxs g d g'=>∃x l,xs=[x]/\B0 g x=some l/\d=.tup l/\g'=g
def QX:DR:=λxs g d g'=>∃x c b,xs=[x,.ty c]/\c∈["int","bool","str","tuple","list"]/\pv g x c=some b/\d=.bl b/\g'=g
def allR:DR:=λxs g d g'=>∃a l b,xs=[.ref a]/\b7 g a=some l/\(T5 l=some b\/∃ns:List Int,l=ns.map .int/\b=ns.all λn=>n != 0)/\d=.bl b/\g'=g
def CA:List D->Option Bool
 |[]=>some false
 |.bl b::r=>(CA r).map λc=>b||c
 |_=>none
def anyR:DR:=λxs g d g'=>∃a l b,xs=[.ref a]/\b7 g a=some l/\CA l=some b/\d=.bl b/\g'=g
def LH:DR:=λxs g d g'=>(∃a kvs ns,xs=[.ref a]/\g[a]?=some (.bN kvs)/\kvs.map (·.1)=ns.map Sum.inl/\ns.length<60/\d=.ref g.length/\g'=g++[.lst ((u9 ns).map .int)])\/∃x,∃ns:List Int,xs=[x]/\B0 g x=some (ns.map .int)/\ns.length<60/\d=.ref g.length/\g'=g++[.lst ((J7 ns).map .int)]
def OZ:DR:=λxs g d g'=>g'=g/\((∃i j,xs=[.int i,.int j]/\d=.int (if j>i then j else i))\/∃a,∃(ns:List Int) (M:Int),xs=[.ref a]/\b7 g a=some (ns.map .int)/\M∈ns/\(∀x∈ns,x<=M)/\d=.int M)
def Pa:DR:=λxs g d g'=>g'=g/\((∃i j,xs=[.int i,.int j]/\d=.int (if j<i then j else i))\/∃a,∃(ns:List Int) (M:Int),xs=[.ref a]/\b7 g a=some (ns.map .int)/\M∈ns/\(∀x∈ns,M<=x)/\d=.int M)
def RU:DR:=λxs g d g'=>∃a i S n,xs=[.ref a,.int i]/\g[a]?=some (.set S n)/\n+1<4096/\d=.bc/\g'=g.set a (.set (λk=>S k||decide (k=i)) (if S i then n else n+1))
def Rj:DR:=λxs g d g'=>∃a,∃ns:List Int,xs=[.ref a]/\b7 g a=some (ns.map .int)/\ns.length<600/\d=.ref g.length/\g'=g++[.set (λk=>decide (k∈ns)) (ST.f6 [] ns).length]
def Ln(i:Int):DR:=λxs g d g'=>xs=[]/\d=.ref g.length/\g'=g++[.set (λk=>decide (k=i)) 1]
def PY:DR:=λxs g d g'=>∃a,∃ns:List Int,xs=[.ref a]/\b7 g a=some (ns.map .int)/\d=.int ns.sum/\g'=g
def Rm:DR:=λxs g d g'=>∃a,∃ns:List Int,xs=[.ref a]/\b7 g a=some (ns.map .int)/\ns.length<60/\d=.int (ST.f6 [] ns).length/\g'=g
def QY:DR:=λxs g d g'=>∃i j,xs=[.int i,.int j]/\d=.int (i-j)/\g'=g
def OT:DR:=λxs g d g'=>g'=g/\((∃i,xs=[.int i]/\d=.int i)\/∃b,xs=[.bl b]/\d=.int (if b then 1 else 0))
def PV:DR:=λxs g d g'=>(∃i,xs=[.int i]/\i.natAbs.log2<1920/\d=.str (toString i)/\g'=g)\/∃x,xs=[.str x]/\d=.str x/\g'=g
def Kj:DR:=λxs g d g'=>∃j,xs=[.int j]/\-(2 ^ 62)<=j/\j<=100000/\d=.ref g.length/\g'=g++[.lst (w6 0 j.toNat)]
def Kk:DR:=λxs g d g'=>∃i j,xs=[.int i,.int j]/\(-(2 ^ 62)<=i/\i<2 ^ 62/\-(2 ^ 62)<=j/\j<2 ^ 62/\j-i<=100000)/\d=.ref g.length/\g'=g++[.lst (w6 i (j-i).toNat)]
def RZ:DR:=λxs g d g'=>∃a ns,xs=[.ref a]/\b7 g a=some (ns.map .int)/\ns.length<60/\d=.ref g.length/\g'=g++[.lst ((u9 ns).map .int)]
def PZ:DR:=λxs g d g'=>∃ns ms:List Int,xs=[.tup (ns.map .int),.tup (ms.map .int)]/\(∀k∈ns,ST.Spot k)/\(∀k∈ms,ST.Spot k)/\ns.length+ms.length<50/\d=.ref g.length/\g'=g++[.lst ((u9 (ns++ms)).map .int)]
def Al(neg:Bool):DR:=λxs g d g'=>∃kvs x,xs=[.tup kvs,.str x]/\d=.bl (xor neg (sY kvs x).isSome)/\g'=g
def QS:DR:=λxs g d g'=>∃kvs x,xs=[.tup kvs,.str x]/\sY kvs x=some d/\g'=g
def Jz:DR:=λxs g d g'=>g'=g/\((∃i,xs=[.int i]/\i.natAbs.log2<1920/\d=.str (toString i))\/∃x,xs=[.str x]/\x.length<=2000/\d=.str x)
def QR:DR:=λxs g d g'=>∃x,Y2 xs=some x/\d=.str x/\g'=g
def ON(f:Str):DR:=λxs g d g'=>∃a c fs,xs=[.ref a]/\g[a]?=some (.ins c fs)/\fs.lookup f=some d/\g'=g
def appendR:DR:=λxs g d g'=>∃a y l,xs=[.ref a,y]/\g[a]?=some (.lst l)/\l.length<100000/\d=.bc/\g'=g.set a (.lst (l++[y]))
def Pn:DR:=λxs g d g'=>∃a i l k,xs=[.ref a,.int i]/\g[a]?=some (.lst l)/\-(2 ^ 63)<=i/\i<2 ^ 63/\seqIndex? i l.length=some k/\l[k]?=some d/\g'=g.set a (.lst (l.eraseIdx k))
def OP:DR:=λxs g d g'=>∃a y z kvs c,xs=[.ref a,y,z]/\g[a]?=some (.bN kvs)/\Q5 y=some c/\d=(E0 kvs c).getD z/\g'=g
def uT:D->Bool
 |.bc=>true
 |.bl _=>true
 |.int _=>true
 |.str _=>true
 |_=>false
def toV:D->V
 |.bl b=>.bl b
 |.int i=>.int i
 |.str x=>.str x
 |_=>.bc
def Fg(l:List D)(y:D)(n:Nat):Prop:=l.all uT=true/\uT y=true/\(∃z,l[n]?=some z/\kF (toV z) (toV y)=true)/\∀(m:Nat) z,m<n->l[m]?=some z->kF (toV z) (toV y)=false
def JY:DR:=λxs g d g'=>∃x y l n,xs=[x,y]/\B0 g x=some l/\Fg l y n/\l.length<=100000/\d=.int n/\g'=g
def joinR:DR:=λxs g d g'=>∃sep a ys,xs=[.str sep,.ref a]/\b7 g a=some (ys.map .str)/\MM sep ys<=100000/\d=.str (Builtin.Str.glued sep ys)/\g'=g
def QV:DR:=λxs g d g'=>(∃i j,xs=[.int i,.int j]/\d=.int (i+j)/\g'=g)\/∃l m,xs=[.tup l,.tup m]/\l.length+m.length<=100000/\d=.tup (l++m)/\g'=g
def JP:DR:=λxs g d g'=>∃a l,xs=[.ref a]/\g[a]?=some (.lst l)/\d=.bc/\g'=g.set a (.lst [])
def RJ:DR:=λxs g d g'=>∃a l,xs=[.ref a]/\g[a]?=some (.lst (l++[d]))/\g'=g.set a (.lst l)
def MB:DR:=λxs g d g'=>∃a b l m,xs=[.ref a,.ref b]/\g[a]?=some (.lst l)/\g[b]?=some (.lst m)/\l.length+m.length<=100000/\d=.bc/\g'=g.set a (.lst (l++m))
def JR:DR:=λxs g d g'=>(∃a kvs,xs=[.ref a]/\g[a]?=some (.bN kvs)/\d=.ref g.length/\g'=g++[.bN kvs])\/∃a,∃ks:List Int,xs=[.ref a]/\b7 g a=some (ks.map λk=>.tup [.int k,.bl true])/\ks.length<=1000/\ks.Nodup/\d=.ref g.length/\g'=g++[.bN (ks.map λk=>(.inl k,.bl true))]
def iy(p:Key×Int×Int):Key×D:=(p.1,.tup [.int p.2.1,.int p.2.2])
def T2(n:Int)(p:Key×Int×Int):Bool:=!(decide (p.2.1=n)||decide (p.2.2=n))
def QL:DR:=λxs g d g'=>∃a n,∃fs:List (Key×Int×Int),xs=[.ref a,.int n]/\g[a]?=some (.bN (fs.map iy))/\fs.length<1000/\(fs.map (·.1)).Nodup/\d=.ref g.length/\g'=g++[.bN ((fs.filter (T2 n)).map iy)]
def delD(kvs:List (Key×D))(k:Key):List (Key×D):=kvs.filter λkv=>decide (kv.1≠k)
def QN:DR:=λxs g d g'=>∃a y kvs c,xs=[.ref a,y]/\g[a]?=some (.bN kvs)/\Q5 y=some c/\E0 kvs c=some d/\g'=g.set a (.bN (delD kvs c))
def PR:Pr->DR
 |.lU=>QL
 |.ic=>QN
 |.clear=>JP
 |.any=>anyR
 |.sum=>PY
 |.kq=>RU
 |.oE=>Rj
 |.jW i=>Ln i
 |.U0=>Rm
 |.mS=>QY
 |.eK=>LH
 |.extend=>MB
 |.oB=>RJ
 |.sD=>JR
 |.bin op=>OD op
 |.un op=>He op
 |.cmp op=>OJ op
 |.ix=>HW
 |.lx a b=>PU a b
 |.rev=>PJ
 |.tup=>Qq
 |.lst=>OY
 |.N7=>QM
 |.len=>OW
 |.list=>Rk
 |.tuple=>Mh
 |.isin=>QX
 |.all=>allR
 |.max=>OZ
 |.min=>Pa
 |.int=>OT
 |.str=>PV
 |.lD=>Kj
 |.lC=>Kk
 |.sset=>RZ
 |.Hl=>PZ
 |.BO=>Al false
 |.sm=>Al true
 |.nc=>QS
 |.fv=>Jz
 |.lS=>QR
 |.fld f=>ON f
 |.append=>appendR
 |.pop=>Pn
 |.get=>OP
 |.index=>JY
 |.join=>joinR
 |.iadd=>QV
def cI(p:Pr)(xs:List D)(g:G)(Q:KD):Prop:=∃d g',PR p xs g d g'/\Q d g'
def pY(g:G)(x y:D)(k:Bool->Prop):Prop:=∃b,sA g x y b/\k b
def rm(g:G)(x y:D)(k:Bool->Prop):Prop:=∃b,inR g x y b/\k b
def pE(g:G)(x:D)(k:Bool->Prop):Prop:=∃b,Cu g x b/\k b
def PQ(x y v:D)(g g':G):Prop:=(∃a i l j,x=.ref a/\y=.int i/\g[a]?=some (.lst l)/\ml l.length i=some j/\g'=g.set a (.lst (l.set j v))) \/
 ∃a kvs c,x=.ref a/\g[a]?=some (.bN kvs)/\Q5 y=some c/\kvs.length<100000/\g'=g.set a (.bN (putD kvs c v))
def X2(x y v:D)(g:G)(k:G->Prop):Prop:=∃g',PQ x y v g g'/\k g'
def De(f:Str)(cs:List Str)(x v:D)(g g':G):Prop:=∃a c fs,x=.ref a/\g[a]?=some (.ins c fs)/\c∈cs/\fs.length<100/\g'=g.set a (.ins c (u3 f v fs))
def tw(f:Str)(cs:List Str)(x v:D)(g:G)(k:G->Prop):Prop:=∃g',De f cs x v g g'/\k g'
def mj:Pr->D->G->Prop
 |.get,x,g=>∃a kvs,x=.ref a/\g[a]?=some (.bN kvs)
 |.ic,x,g=>∃a kvs,x=.ref a/\g[a]?=some (.bN kvs)
 |.join,x,g=>∃y,x=.str y
 |.kq,x,g=>∃a S n,x=.ref a/\g[a]?=some (.set S n)
 |.index,x,g=>(∃l,x=.tup l)\/∃a l,x=.ref a/\b7 g a=some l
 |_,x,g=>∃a l,x=.ref a/\b7 g a=some l
inductive IK where
 |fix (l:List D)|lst (a:Nat)|uM (a:Nat)|uv (a n:Nat)
def IK.at:IK->Nat->G->Option (Option D)
 |.fix l,i,_=>some l[i]?
 |.lst a,i,g=>match b7 g a with
  |some l=>some l[i]?
  |none=>none
 |.uM a,i,g=>match b7 g a with
  |some l=>some (l[i]?.map λd=>.tup [.int i,d])
  |none=>none
 |.uv a n,i,g=>match b7 g a with
  |some l=>if l.length=n then some (if i<n then l[n-1-i]? else none) else none
  |none=>none
inductive MT where
 |one (i:Nat)|many (is:List Nat)
def A8:List Nat->List D->S->Option S
 |[],[],Z=>some Z
 |i::is,d::ds,Z=>A8 is ds (Z.set i (some d))
 |_,_,_=>none
def jK(t:MT)(x:D)(Z:S)(k:S->Prop):Prop:=match t with
 |.one i=>k (Z.set i (some x))
 |.many is=>∃l bL,x=.tup l/\A8 is l Z=some bL/\k bL
set_option genInjectivity false in
set_option genSizeOf false in
inductive ME where
 |var (i:Nat)|lit (d:D)
 |nil|cons (a b:ME)|prim (p:Pr) (es:ME)|dQ (p:Pr) (o es:ME)|mz (es:ME)
 |chain (o1 o2:CmpOp) (a b c:ME)
 |de (a b:ME)|gp (a b:ME)|cG (a:ME)|ite (c a b:ME)
 |call (f:Nat) (es:ME)|make (c:Str) (f:Nat) (es:ME)|bq (m:Str) (cs:List (Str×Nat)) (o es:ME)
 |comp (a9:List Nat) (n:Nat) (tg:MT) (it cond elt:ME)|gG (a9:List Nat) (n:Nat) (tg:MT) (it cond elt:ME)|jo (a9:List Nat) (n:Nat) (tg:MT) (it cond elt:ME)
 |eL (e:ME)|fq (a:ME)|iT (a b:ME)|kS (e:ME)|mR (e:ME)|dE (e:ME)|no
noncomputable abbrev eB:=Nat->List D->G->KD->KX->Prop
def O5(Z:S)(a9:List Nat)(n:Nat):S:=a9.map (λj=>(Z[j]?).join)++List.replicate (n-a9.length) none
def turns(k:IK)(Z:S)(g:G)(fin:S->G->Prop)(turn:D->(S->G->Prop)->S->G->Prop):Prop :=
 ∃W:Nat->Nat->S->G->Prop,(∃m,W 0 m Z g)/\∀i m Z g,W i m Z g->(k.at i g=some none/\fin Z g)\/∃x,k.at i g=some (some x)/\∃N2:S->G->Prop,(∀bL g',N2 bL g'->∃m',m'<m/\W (i+1) m' bL g')/\turn x N2 Z g
def vk(k:IK)(Z:S)(g:G)(fin:List D->G->Prop)(turn:D->(Option D->S->G->Prop)->S->G->Prop):Prop :=
 ∃W:Nat->Nat->List D->S->G->Prop,(∃m,W 0 m [] Z g)/\∀i m ys Z g,W i m ys Z g->(k.at i g=some none/\fin ys g) \/
  ∃x,k.at i g=some (some x)/\ys.length<100000/\turn x (λy bL g'=>∃m',m'<m/\W (i+1) m' (ys++y.toList) bL g') Z g
def yB(k:IK)(Z:S)(g:G)(fin:List Int->G->Prop)(turn:D->(Option Int->S->G->Prop)->S->G->Prop):Prop :=
 ∃W:Nat->Nat->List Int->S->G->Prop,(∃m,W 0 m [] Z g)/\∀i m ys Z g,W i m ys Z g->(k.at i g=some none/\ys.length<60/\fin ys g) \/
  ∃x,k.at i g=some (some x)/\ys.length<60/\turn x (λy bL g'=>∃m',m'<m/\W (i+1) m' (ys++y.toList) bL g') Z g
mutual
noncomputable def aP(P:eB):ME->S->G->KD->KX->Prop
 |.var i,Z,g,Q,_=>∃d,Z[i]?=some (some d)/\Q d g
 |.lit d,_,g,Q,_=>Q d g
 |.prim p es,Z,g,Q,E=>eN P es Z g (λxs g1=>cI p xs g1 Q) E
 |.dQ p o es,Z,g,Q,E=>aP P o Z g (λx g1=>mj p x g1/\eN P es Z g1 (λxs g2=>cI p (x::xs) g2 Q) E) E
 |.mz es,Z,g,Q,E=>eN P es Z (g++[.bN []]) (λxs g1=>∃kvs,qd xs []=some kvs/\xs.length<=30/\g1[g.length]?=some (.bN [])/\Q (.ref g.length) (g1.set g.length (.bN kvs))) E
 |.chain o1 o2 a b c,Z,g,Q,E=>aP P a Z g (λx g1=>aP P b Z g1 (λy g2=>cI (.cmp o1) [x,y] g2 λz g3=>∃t,z=.bl t/\if t=true then aP P c Z g3 (λw g4=>cI (.cmp o2) [y,w] g4 Q) E else Q (.bl false) g3) E) E
 |.de a b,Z,g,Q,E=>aP P a Z g (λx g1=>∃t,x=.bl t/\if t=true then aP P b Z g1 Q E else Q (.bl false) g1) E
 |.gp a b,Z,g,Q,E=>aP P a Z g (λx g1=>∃t,x=.bl t/\if t=true then Q (.bl true) g1 else aP P b Z g1 Q E) E
 |.cG a,Z,g,Q,E=>aP P a Z g (λx g1=>∃t,x=.bl t/\Q (.bl (!t)) g1) E
 |.ite c a b,Z,g,Q,E=>dq P c Z g (λt g1=>if t=true then aP P a Z g1 Q E else aP P b Z g1 Q E) E
 |.call f es,Z,g,Q,E=>eN P es Z g (λxs g1=>P f xs g1 Q E) E
 |.make c f es,Z,g,Q,E=>eN P es Z g (λxs g1=>P f (.ref g1.length::xs) (g1++[.ins c []]) (λd g2=>d=.bc/\Q (.ref g1.length) g2) E) E
 |.bq m cs o es,Z,g,Q,E=>aP P o Z g (λx g1=>∃a c fs f,x=.ref a/\g1[a]?=some (.ins c fs)/\fs.lookup m=none/\cs.lookup c=some f/\eN P es Z g1 (λxs g2=>P f (x::xs) g2 Q E) E) E
 |.comp a9 n tg it cond elt,Z,g,Q,E=>hX P it Z g (λk g1=>vk k (O5 Z a9 n) g1 (λys g=>Q (.ref g.length) (g++[.lst ys])) λx N Z g=>jK tg x Z λcj=>dq P cond cj g (λb g3=>if b=true then aP P elt cj g3 (λy g4=>N (some y) cj g4) iZ else N none cj g3) iZ) E
 |.jo a9 n tg it cond elt,Z,g,Q,E=>hX P it Z g (λk g1=>vk k (O5 Z a9 n) g1 (λys g=>Q (.ref g.length) (g++[.lst ys])) λx N Z g=>jK tg x Z λcj=>dq P cond cj g (λb g3=>if b=true then aP P elt cj g3 (λy g4=>N (some y) cj g4) E else N none cj g3) iZ) E
 |.gG a9 n tg it cond elt,Z,g,Q,E=>hX P it Z g (λk g1=>yB k (O5 Z a9 n) g1 (λys g=>Q (.ref g.length) (g++[.lst ((u9 ys).map .int)])) λx N Z g=>jK tg x Z λcj=>dq P cond cj g (λb g3=>if b=true then aP P elt cj g3 (λy g4=>∃j,y=.int j/\N (some j) cj g4) iZ else N none cj g3) iZ) E
 |.nil,_,_,_,_=>False
 |.cons _ _,_,_,_,_=>False
 |.eL _,_,_,_,_=>False
 |.fq _,_,_,_,_=>False
 |.iT _ _,_,_,_,_=>False
 |.kS _,_,_,_,_=>False
 |.mR _,_,_,_,_=>False
 |.dE _,_,_,_,_=>False
 |.no,_,_,_,_=>False
noncomputable def eN(P:eB):ME->S->G->(List D->G->Prop)->KX->Prop
 |.nil,_,g,Q,_=>Q [] g
 |.cons a b,Z,g,Q,E=>aP P a Z g (λx g1=>eN P b Z g1 (λxs g2=>Q (x::xs) g2) E) E
 |_,_,_,_,_=>False
noncomputable def dq(P:eB):ME->S->G->(Bool->G->Prop)->KX->Prop
 |.de a b,Z,g,Q,E=>dq P a Z g (λt g1=>if t=true then dq P b Z g1 Q E else Q false g1) E
 |.gp a b,Z,g,Q,E=>dq P a Z g (λt g1=>if t=true then Q true g1 else dq P b Z g1 Q E) E
 |.cG a,Z,g,Q,E=>dq P a Z g (λt g1=>Q (!t) g1) E
 |.no,_,g,Q,_=>Q true g
 |.dE e,Z,g,Q,E=>aP P e Z g (λx g1=>pE g1 x λb=>Q b g1) E
 |_,_,_,_,_=>False
noncomputable def hX(P:eB):ME->S->G->(IK->G->Prop)->KX->Prop
 |.eL e,Z,g,R,E=>aP P e Z g (λx g1=>(∃l,x=.tup l/\R (.fix l) g1)\/∃a l,x=.ref a/\b7 g1 a=some l/\R (.lst a) g1) E
 |.fq a,Z,g,R,E=>aP P a Z g (λx g1=>∃j:Int,x=.int j/\-(2 ^ 62)<=j/\j<2 ^ 62/\R (.fix (w6 0 j.toNat)) g1) E
 |.iT a b,Z,g,R,E=>aP P a Z g (λx g1=>aP P b Z g1 (λy g2=>∃i j:Int,x=.int i/\y=.int j/\(-(2 ^ 62)<=i/\i<2 ^ 62/\-(2 ^ 62)<=j/\j<2 ^ 62)/\R (.fix (w6 i (j-i).toNat)) g2) E) E
 |.kS e,Z,g,R,E=>aP P e Z g (λx g1=>∃a l,x=.ref a/\b7 g1 a=some l/\R (.uM a) g1) E
 |.mR e,Z,g,R,E=>aP P e Z g (λx g1=>∃a l,x=.ref a/\b7 g1 a=some l/\R (.uv a l.length) g1) E
 |_,_,_,_,_=>False
end
set_option genInjectivity false in
set_option genSizeOf false in
inductive MS where
 |pass|seq (a b:MS)|expr (e:ME)|set (i:Nat) (e:ME)|kM (t:MT) (e:ME)|cF (o i v:ME)|fC (f:Str) (cs:List Str) (o v:ME)
 |jy (f:Str) (cs:List Str) (o v:ME)|jx (i:Nat) (p:Pr) (v:ME)|ur (o1 i1 o2 i2 e:ME)
 |ifs (c:ME) (a b:MS)|eA (t:MT) (it:ME) (b:MS)|iO (c:ME) (b:MS)|ret (e:ME)|oy|brk|cont
 |raise (x:Str) (es:ME)|T7 (b:MS) (hs:List (Str×ME))
structure Ends where
 nx:S->G->Prop
 rt:KD
 bk:S->G->Prop:=λ_ _=>False
 ct:S->G->Prop:=λ_ _=>False
def kl(P:eB)(N:Ends)(Z:S)(E:KX):List (Str×ME)->KX
 |[],x,g=>E x g
 |(y,e)::r,x,g=>if x.cls=y\/y="MintError" then aP P e Z g N.rt iZ else kl P N Z E r x g
def wpS(P:eB):MS->Ends->S->G->KX->Prop
 |.pass,N,Z,g,_=>N.nx Z g
 |.seq a b,N,Z,g,E=>wpS P a { N with nx:=λgT g1=>wpS P b N gT g1 E } Z g E
 |.expr e,N,Z,g,E=>aP P e Z g (λ_ g1=>N.nx Z g1) E
 |.set i e,N,Z,g,E=>aP P e Z g (λx g1=>N.nx (Z.set i (some x)) g1) E
 |.kM t e,N,Z,g,E=>aP P e Z g (λx g1=>jK t x Z λgT=>N.nx gT g1) E
 |.cF o i v,N,Z,g,E=>aP P v Z g (λx g1=>aP P o Z g1 (λy g2=>aP P i Z g2 (λz g3=>X2 y z x g3 λg4=>N.nx Z g4) E) E) E
 |.fC f cs o v,N,Z,g,E=>aP P v Z g (λx g1=>aP P o Z g1 (λy g2=>tw f cs y x g2 λg3=>N.nx Z g3) E) E
 |.jy f cs o v,N,Z,g,E=>aP P o Z g (λy g1=>∃a c fs x,y=.ref a/\g1[a]?=some (.ins c fs)/\c∈cs/\fs.lookup f=some x/\aP P v Z g1 (λz g3=>cI .iadd [x,z] g3 λw g4=>∃ig,g4[a]?=some (.ins c ig)/\ig.length<100/\N.nx Z (g4.set a (.ins c (u3 f w ig)))) E) E
 |.ur o1 i1 o2 i2 e,N,Z,g,E=>aP P e Z g (λx g1=>∃u v,x=.tup [u,v]/\aP P o1 Z g1 (λy1 g2=>aP P i1 Z g2 (λz1 g3=>X2 y1 z1 u g3 λg4=>aP P o2 Z g4 (λy2 g5=>aP P i2 Z g5 (λz2 g6=>X2 y2 z2 v g6 λg7=>N.nx Z g7) E) E) E) E) E
 |.jx i p v,N,Z,g,E=>∃x,Z[i]?=some (some x)/\aP P v Z g (λz g1=>cI p [x,z] g1 λw g2=>N.nx (Z.set i (some w)) g2) E
 |.ifs c a b,N,Z,g,E=>dq P c Z g (λt g1=>if t=true then wpS P a N Z g1 E else wpS P b N Z g1 E) E
 |.eA t it b,N,Z,g,E=>hX P it Z g (λk g1=>turns k Z g1 N.nx λx N2 Z g=>jK t x Z λcj=>wpS P b { N with nx:=N2,ct:=N2,bk:=N.nx } cj g E) E
 |.iO c b,N,Z,g,E=>∃W:Nat->S->G->Prop,(∃m,W m Z g)/\∀m Z g,W m Z g->dq P c Z g (λt g1=>if t=true then ∃N2:S->G->Prop,(∀bL g',N2 bL g'->∃m',m'<m/\W m' bL g')/\wpS P b { N with nx:=N2,ct:=N2,bk:=N.nx } Z g1 E else N.nx Z g1) E
 |.ret e,N,Z,g,E=>aP P e Z g N.rt E
 |.oy,N,_,g,_=>N.rt .bc g
 |.brk,N,Z,g,_=>N.bk Z g
 |.cont,N,Z,g,_=>N.ct Z g
 |.raise x es,_,Z,g,E=>eN P es Z g (λvs g1=>vs.length<=1000/\E ⟨x⟩ g1) E
 |.T7 b hs,N,Z,g,E=>wpS P b N Z g (kl P N (Z.map λ_=>none) E hs)
structure aJ where
 ar:Nat
 n:Nat
 body:MS
def b5(m:aJ)(ds:List D):S:=ds.map some++List.replicate (m.n-ds.length) none
def a8(T:Nat->Option aJ):Nat->eB
 |0,_,_,_,_,_=>False
 |k+1,f,ds,g,Q,E=>∃m,T f=some m/\ds.length=m.ar/\wpS (a8 T k) m.body ⟨λ_ g'=>Q .bc g',Q,λ_ _=>False,λ_ _=>False⟩ (b5 m ds) g E
end M
namespace M
open PySem L2
variable{g:G}{K:PySem.W.Frag}{H:Hp}{a p:Addr}{vs:List V}{i:Nat}{o:O}{u:HO}{l:List D}
theorem l9{p xs}{Q Q':KD}(h:∀d g,Q d g->Q' d g)(q:cI p xs g Q):cI p xs g Q':=by
 obtain⟨d,g',a,b⟩:=q;exact⟨d,g',a,h _ _ b⟩
theorem UL{x}{k k':Bool->Prop}(h:∀b,k b->k' b)(q:pE g x k):pE g x k':=by
 obtain⟨b,a,z⟩:=q;exact⟨b,a,h _ z⟩
theorem S0{x y v}{k k':G->Prop}(h:∀g,k g->k' g)(q:X2 x y v g k):X2 x y v g k':=by
 obtain⟨b,a,z⟩:=q;exact⟨b,a,h _ z⟩
theorem Vw{f cs x v}{k k':G->Prop}(h:∀g,k g->k' g)(q:tw f cs x v g k):tw f cs x v g k':=by
 obtain⟨b,a,z⟩:=q;exact⟨b,a,h _ z⟩
theorem y9{t x Z}{k k':S->Prop}(h:∀Z,k Z->k' Z)(q:jK t x Z k):jK t x Z k':=by
 cases t with
 |one i=>exact h _ q
 |many is=>obtain⟨l,bL,a,b,c⟩:=q;exact⟨l,bL,a,b,h _ c⟩
theorem VF{k Z g}{fin jw:S->G->Prop}{turn gE:D->(S->G->Prop)->S->G->Prop}(h:∀Z g,fin Z g->jw Z g)(h2:∀x N Z g,turn x N Z g->gE x N Z g)(q:turns k Z g fin turn):turns k Z g jw gE:=by
 obtain⟨W,w0,q⟩:=q;refine⟨W,w0,λi m Z g w=>?_⟩;rcases q i m Z g w with⟨a,b⟩|⟨x,a,N2,b,c⟩
 ·exact .inl ⟨a,h _ _ b⟩
 ·exact .inr ⟨x,a,N2,b,h2 _ _ _ _ c⟩
theorem EY{k Z g}{fin jw:List D->G->Prop}{turn gE:D->(Option D->S->G->Prop)->S->G->Prop}(h:∀ys g,fin ys g->jw ys g)(h2:∀x N Z g,turn x N Z g->gE x N Z g)(q:vk k Z g fin turn):vk k Z g jw gE:=by
 obtain⟨W,w0,q⟩:=q;refine⟨W,w0,λi m ys Z g w=>?_⟩;rcases q i m ys Z g w with⟨a,b⟩|⟨x,a,b,c⟩
 ·exact .inl ⟨a,h _ _ b⟩
 ·exact .inr ⟨x,a,b,h2 _ _ _ _ c⟩
theorem Wk{k Z g}{fin jw:List Int->G->Prop}{turn gE:D->(Option Int->S->G->Prop)->S->G->Prop}(h:∀ys g,fin ys g->jw ys g)(h2:∀x N Z g,turn x N Z g->gE x N Z g)(q:yB k Z g fin turn):yB k Z g jw gE:=by
 obtain⟨W,w0,q⟩:=q;refine⟨W,w0,λi m ys Z g w=>?_⟩;rcases q i m ys Z g w with⟨a,b,c⟩|⟨x,a,b,c⟩
 ·exact .inl ⟨a,b,h _ _ c⟩
 ·exact .inr ⟨x,a,b,h2 _ _ _ _ c⟩
theorem E3{t:Bool}{A B A' B':Prop}(h1:A->A')(h2:B->B')(q:if t=true then A else B):if t=true then A' else B':=by
 cases t
 ·exact h2 q
 ·exact h1 q
def i6(P:eB):Prop:=∀f xs g Q Q' E E',(∀d g,Q d g->Q' d g)->(∀x g,E x g->E' x g)->P f xs g Q E->P f xs g Q' E'
mutual
theorem a6{P:eB}(hP:i6 P):∀(e:ME) (Z:S) (g:G) (Q Q':KD) (E E':KX),(∀d g,Q d g->Q' d g)->(∀x g,E x g->E' x g)->aP P e Z g Q E->aP P e Z g Q' E'
 |.var i,Z,g,Q,Q',E,E',h,hx,q=>by
  obtain⟨d,a,b⟩:=q;exact⟨d,a,h _ _ b⟩
 |.lit d,Z,g,Q,Q',E,E',h,hx,q=>by exact h _ _ q
 |.prim p es,Z,g,Q,Q',E,E',h,hx,q=>by
  exact p6 hP es _ _ _ _ _ _ (λxs g1 q=>l9 h q) hx q
 |.dQ p o es,Z,g,Q,Q',E,E',h,hx,q=>by
  exact a6 hP o _ _ _ _ _ _ (λx g1 q=>⟨q.1,p6 hP es _ _ _ _ _ _ (λxs g2 q=>l9 h q) hx q.2⟩) hx q
 |.mz es,Z,g,Q,Q',E,E',h,hx,q=>by
  exact p6 hP es _ _ _ _ _ _ (λxs g1 ⟨kvs,a,b,c,d⟩=>⟨kvs,a,b,c,h _ _ d⟩) hx q
 |.chain o1 o2 a b c,Z,g,Q,Q',E,E',h,hx,q=>by
  refine a6 hP a _ _ _ _ _ _ (λx g1 q=>a6 hP b _ _ _ _ _ _ (λy g2 q=>l9 (λz g3 q=>?_) q) hx q) hx q;obtain⟨t,e,q⟩:=q;exact⟨t,e,E3 (λq=>a6 hP c _ _ _ _ _ _ (λw g4 q=>l9 h q) hx q) (h _ _) q⟩
 |.de a b,Z,g,Q,Q',E,E',h,hx,q=>by
  refine a6 hP a _ _ _ _ _ _ (λx g1 q=>?_) hx q;obtain⟨t,e,q⟩:=q;exact⟨t,e,E3 (λq=>a6 hP b _ _ _ _ _ _ h hx q) (h _ _) q⟩
 |.gp a b,Z,g,Q,Q',E,E',h,hx,q=>by
  refine a6 hP a _ _ _ _ _ _ (λx g1 q=>?_) hx q;obtain⟨t,e,q⟩:=q;exact⟨t,e,E3 (h _ _) (λq=>a6 hP b _ _ _ _ _ _ h hx q) q⟩
 |.cG a,Z,g,Q,Q',E,E',h,hx,q=>by
  refine a6 hP a _ _ _ _ _ _ (λx g1 q=>?_) hx q;obtain⟨t,e,q⟩:=q;exact⟨t,e,h _ _ q⟩
 |.ite c a b,Z,g,Q,Q',E,E',h,hx,q=>by
  exact m8 hP c _ _ _ _ _ _ (λt g1 q=>E3 (λq=>a6 hP a _ _ _ _ _ _ h hx q) (λq=>a6 hP b _ _ _ _ _ _ h hx q) q) hx q
 |.call f es,Z,g,Q,Q',E,E',h,hx,q=>by
  exact p6 hP es _ _ _ _ _ _ (λxs g1 q=>hP _ _ _ _ _ _ _ h hx q) hx q
 |.make c f es,Z,g,Q,Q',E,E',h,hx,q=>by
  exact p6 hP es _ _ _ _ _ _ (λxs g1 q=>hP _ _ _ _ _ _ _ (λd g2 q=>⟨q.1,h _ _ q.2⟩) hx q) hx q
 |.bq m cs o es,Z,g,Q,Q',E,E',h,hx,q=>by
  refine a6 hP o _ _ _ _ _ _ (λx g1 q=>?_) hx q;obtain⟨a,c,fs,f,q1,q2,q3,q4,q⟩:=q;exact⟨a,c,fs,f,q1,q2,q3,q4,p6 hP es _ _ _ _ _ _ (λxs g2 q=>hP _ _ _ _ _ _ _ h hx q) hx q⟩
 |.comp a9 n tg it cond elt,Z,g,Q,Q',E,E',h,hx,q=>by
  exact v5 hP it _ _ _ _ _ _ (λk g1 q=>EY (λys g q=>h _ _ q) (λ_ _ _ _ q=>q) q) hx q
 |.jo a9 n tg it cond elt,Z,g,Q,Q',E,E',h,hx,q=>by
  exact v5 hP it _ _ _ _ _ _ (λk g1 q=>EY (λys g q=>h _ _ q) (λx N Z g q=>y9 (λcj q=>m8 hP cond _ _ _ _ _ _ (λb g3 q=>by
   cases b
   ·exact q
   ·exact a6 hP elt _ _ _ _ _ _ (λ_ _ z=>z) hx q) (λ_ _ z=>z) q) q) q) hx q
 |.gG a9 n tg it cond elt,Z,g,Q,Q',E,E',h,hx,q=>by
  exact v5 hP it _ _ _ _ _ _ (λk g1 q=>Wk (λys g q=>h _ _ q) (λ_ _ _ _ q=>q) q) hx q
 |.nil,Z,g,Q,Q',E,E',h,hx,q=>(show False from q).elim
 |.cons _ _,Z,g,Q,Q',E,E',h,hx,q=>(show False from q).elim
 |.eL _,Z,g,Q,Q',E,E',h,hx,q=>(show False from q).elim
 |.fq _,Z,g,Q,Q',E,E',h,hx,q=>(show False from q).elim
 |.iT _ _,Z,g,Q,Q',E,E',h,hx,q=>(show False from q).elim
 |.kS _,Z,g,Q,Q',E,E',h,hx,q|.mR _,Z,g,Q,Q',E,E',h,hx,q=>(show False from q).elim
 |.dE _,Z,g,Q,Q',E,E',h,hx,q=>(show False from q).elim
 |.no,Z,g,Q,Q',E,E',h,hx,q=>(show False from q).elim
theorem p6{P:eB}(hP:i6 P):∀(e:ME) (Z:S) (g:G) (Q Q':List D->G->Prop) (E E':KX),(∀d g,Q d g->Q' d g)->(∀x g,E x g->E' x g)->eN P e Z g Q E->eN P e Z g Q' E'
 |.nil,Z,g,Q,Q',E,E',h,hx,q=>by exact h _ _ q
 |.cons a b,Z,g,Q,Q',E,E',h,hx,q=>by
  exact a6 hP a _ _ _ _ _ _ (λx g1 q=>p6 hP b _ _ _ _ _ _ (λxs g2 q=>h _ _ q) hx q) hx q
 |.var _,Z,g,Q,Q',E,E',h,hx,q|.lit _,Z,g,Q,Q',E,E',h,hx,q|.prim _ _,Z,g,Q,Q',E,E',h,hx,q|.dQ _ _ _,Z,g,Q,Q',E,E',h,hx,q|.mz _,Z,g,Q,Q',E,E',h,hx,q|.chain _ _ _ _ _,Z,g,Q,Q',E,E',h,hx,q|.de _ _,Z,g,Q,Q',E,E',h,hx,q|.gp _ _,Z,g,Q,Q',E,E',h,hx,q|.cG _,Z,g,Q,Q',E,E',h,hx,q|.ite _ _ _,Z,g,Q,Q',E,E',h,hx,q|.call _ _,Z,g,Q,Q',E,E',h,hx,q
 |.make _ _ _,Z,g,Q,Q',E,E',h,hx,q|.bq _ _ _ _,Z,g,Q,Q',E,E',h,hx,q|.comp _ _ _ _ _ _,Z,g,Q,Q',E,E',h,hx,q|.gG _ _ _ _ _ _,Z,g,Q,Q',E,E',h,hx,q|.jo _ _ _ _ _ _,Z,g,Q,Q',E,E',h,hx,q|.eL _,Z,g,Q,Q',E,E',h,hx,q|.fq _,Z,g,Q,Q',E,E',h,hx,q|.iT _ _,Z,g,Q,Q',E,E',h,hx,q|.kS _,Z,g,Q,Q',E,E',h,hx,q|.mR _,Z,g,Q,Q',E,E',h,hx,q|.dE _,Z,g,Q,Q',E,E',h,hx,q|.no,Z,g,Q,Q',E,E',h,hx,q=>(show False from q).elim
theorem m8{P:eB}(hP:i6 P):∀(e:ME) (Z:S) (g:G) (Q Q':Bool->G->Prop) (E E':KX),(∀d g,Q d g->Q' d g)->(∀x g,E x g->E' x g)->dq P e Z g Q E->dq P e Z g Q' E'
 |.de a b,Z,g,Q,Q',E,E',h,hx,q=>by
  exact m8 hP a _ _ _ _ _ _ (λt g1 q=>E3 (λq=>m8 hP b _ _ _ _ _ _ h hx q) (h _ _) q) hx q
 |.gp a b,Z,g,Q,Q',E,E',h,hx,q=>by
  exact m8 hP a _ _ _ _ _ _ (λt g1 q=>E3 (h _ _) (λq=>m8 hP b _ _ _ _ _ _ h hx q) q) hx q
 |.cG a,Z,g,Q,Q',E,E',h,hx,q=>by exact m8 hP a _ _ _ _ _ _ (λt g1 q=>h _ _ q) hx q
 |.no,Z,g,Q,Q',E,E',h,hx,q=>by exact h _ _ q
 |.dE e,Z,g,Q,Q',E,E',h,hx,q=>by exact a6 hP e _ _ _ _ _ _ (λx g1 q=>UL (λb q=>h _ _ q) q) hx q
 |.var _,Z,g,Q,Q',E,E',h,hx,q|.lit _,Z,g,Q,Q',E,E',h,hx,q|.prim _ _,Z,g,Q,Q',E,E',h,hx,q|.dQ _ _ _,Z,g,Q,Q',E,E',h,hx,q|.mz _,Z,g,Q,Q',E,E',h,hx,q|.chain _ _ _ _ _,Z,g,Q,Q',E,E',h,hx,q|.ite _ _ _,Z,g,Q,Q',E,E',h,hx,q|.call _ _,Z,g,Q,Q',E,E',h,hx,q|.nil,Z,g,Q,Q',E,E',h,hx,q|.cons _ _,Z,g,Q,Q',E,E',h,hx,q
 |.make _ _ _,Z,g,Q,Q',E,E',h,hx,q|.bq _ _ _ _,Z,g,Q,Q',E,E',h,hx,q|.comp _ _ _ _ _ _,Z,g,Q,Q',E,E',h,hx,q|.gG _ _ _ _ _ _,Z,g,Q,Q',E,E',h,hx,q|.jo _ _ _ _ _ _,Z,g,Q,Q',E,E',h,hx,q|.eL _,Z,g,Q,Q',E,E',h,hx,q|.fq _,Z,g,Q,Q',E,E',h,hx,q|.iT _ _,Z,g,Q,Q',E,E',h,hx,q|.kS _,Z,g,Q,Q',E,E',h,hx,q|.mR _,Z,g,Q,Q',E,E',h,hx,q=>(show False from q).elim
theorem v5{P:eB}(hP:i6 P):∀(e:ME) (Z:S) (g:G) (Q Q':IK->G->Prop) (E E':KX),(∀d g,Q d g->Q' d g)->(∀x g,E x g->E' x g)->hX P e Z g Q E->hX P e Z g Q' E'
 |.eL e,Z,g,Q,Q',E,E',h,hx,q=>by
  exact a6 hP e _ _ _ _ _ _ (λx g1 q=>q.imp (λ⟨l,a,b⟩=>⟨l,a,h _ _ b⟩) λ⟨i,l,a,b,c⟩=>⟨i,l,a,b,h _ _ c⟩) hx q
 |.fq a,Z,g,Q,Q',E,E',h,hx,q=>by
  exact a6 hP a _ _ _ _ _ _ (λx g1 ⟨j,a,b,c,d⟩=>⟨j,a,b,c,h _ _ d⟩) hx q
 |.iT a b,Z,g,Q,Q',E,E',h,hx,q=>by
  exact a6 hP a _ _ _ _ _ _ (λx g1 q=>a6 hP b _ _ _ _ _ _ (λy g2 ⟨i,j,a,b,c,d⟩=>⟨i,j,a,b,c,h _ _ d⟩) hx q) hx q
 |.kS e,Z,g,Q,Q',E,E',h,hx,q=>by
  exact a6 hP e _ _ _ _ _ _ (λx g1 ⟨i,l,a,b,c⟩=>⟨i,l,a,b,h _ _ c⟩) hx q
 |.mR e,Z,g,Q,Q',E,E',h,hx,q=>by
  exact a6 hP e _ _ _ _ _ _ (λx g1 ⟨i,l,a,b,c⟩=>⟨i,l,a,b,h _ _ c⟩) hx q
 |.var _,Z,g,Q,Q',E,E',h,hx,q|.lit _,Z,g,Q,Q',E,E',h,hx,q|.prim _ _,Z,g,Q,Q',E,E',h,hx,q|.dQ _ _ _,Z,g,Q,Q',E,E',h,hx,q|.mz _,Z,g,Q,Q',E,E',h,hx,q|.chain _ _ _ _ _,Z,g,Q,Q',E,E',h,hx,q|.ite _ _ _,Z,g,Q,Q',E,E',h,hx,q|.call _ _,Z,g,Q,Q',E,E',h,hx,q|.nil,Z,g,Q,Q',E,E',h,hx,q|.cons _ _,Z,g,Q,Q',E,E',h,hx,q
 |.de _ _,Z,g,Q,Q',E,E',h,hx,q|.gp _ _,Z,g,Q,Q',E,E',h,hx,q|.cG _,Z,g,Q,Q',E,E',h,hx,q|.dE _,Z,g,Q,Q',E,E',h,hx,q|.no,Z,g,Q,Q',E,E',h,hx,q
 |.make _ _ _,Z,g,Q,Q',E,E',h,hx,q|.bq _ _ _ _,Z,g,Q,Q',E,E',h,hx,q|.comp _ _ _ _ _ _,Z,g,Q,Q',E,E',h,hx,q|.gG _ _ _ _ _ _,Z,g,Q,Q',E,E',h,hx,q|.jo _ _ _ _ _ _,Z,g,Q,Q',E,E',h,hx,q=>(show False from q).elim
end
structure Ends.le(N N':Ends):Prop where
 nx:∀Z g,N.nx Z g->N'.nx Z g
 rt:∀d g,N.rt d g->N'.rt d g
 bk:∀Z g,N.bk Z g->N'.bk Z g
 ct:∀Z g,N.ct Z g->N'.ct Z g
theorem DH{P:eB}(hP:i6 P){N N':Ends}{E E':KX}(h:N.le N')(hx:∀x g,E x g->E' x g){Z:S}:∀(hs:List (Str×ME)) x g,kl P N Z E hs x g->kl P N' Z E' hs x g
 |[],x,g,q=>hx x g q
 |(y,e)::r,x,g,q=>by
  unfold kl at q ⊢;split
  ·rename_i hh;rw[aK hh] at q;exact a6 hP e _ _ _ _ _ _ h.rt (λ_ _ z=>z) q
  ·rename_i hh;rw[aD hh] at q;exact DH hP h hx r x g q
theorem wpS_mono{P:eB}(hP:i6 P):∀(s:MS) (N N':Ends) (Z:S) (g:G) (E E':KX),N.le N'->(∀x g,E x g->E' x g)->wpS P s N Z g E->wpS P s N' Z g E'
 |.pass,N,N',Z,g,E,E',h,hx,q=>h.nx _ _ q
 |.seq a b,N,N',Z,g,E,E',h,hx,q=>wpS_mono hP a { N with nx:=λgT g1=>wpS P b N gT g1 E } { N' with nx:=λgT g1=>wpS P b N' gT g1 E' } _ _ _ _ ⟨λgT g1 q=>wpS_mono hP b _ _ _ _ _ _ h hx q,h.rt,h.bk,h.ct⟩ hx q
 |.expr e,N,N',Z,g,E,E',h,hx,q=>a6 hP e _ _ _ _ _ _ (λx g1 q=>h.nx _ _ q) hx q
 |.set i e,N,N',Z,g,E,E',h,hx,q=>a6 hP e _ _ _ _ _ _ (λx g1 q=>h.nx _ _ q) hx q
 |.kM t e,N,N',Z,g,E,E',h,hx,q=>a6 hP e _ _ _ _ _ _ (λx g1 q=>y9 (λZ q=>h.nx _ _ q) q) hx q
 |.cF o i v,N,N',Z,g,E,E',h,hx,q=>a6 hP v _ _ _ _ _ _ (λx g1 q=>a6 hP o _ _ _ _ _ _ (λy g2 q=>a6 hP i _ _ _ _ _ _ (λz g3 q=>S0 (λg q=>h.nx _ _ q) q) hx q) hx q) hx q
 |.fC f cs o v,N,N',Z,g,E,E',h,hx,q=>a6 hP v _ _ _ _ _ _ (λx g1 q=>a6 hP o _ _ _ _ _ _ (λy g2 q=>Vw (λg q=>h.nx _ _ q) q) hx q) hx q
 | .jy f cs o v,N,N',Z,g,E,E',h,hx,q=>a6 hP o _ _ _ _ _ _ (λy g1 q=>by
   obtain⟨a,c,fs,x,q1,q2,q3,q4,q⟩:=q;exact ⟨a,c,fs,x,q1,q2,q3,q4,a6 hP v _ _ _ _ _ _ (λz g3 q=>l9 (λw g4 q=>by
    obtain⟨ig,k1,k2,k3⟩:=q;exact ⟨ig,k1,k2,h.nx _ _ k3⟩) q) hx q⟩) hx q
 |.ur o1 i1 o2 i2 e,N,N',Z,g,E,E',h,hx,q=>a6 hP e _ _ _ _ _ _ (λx g1 q=>let ⟨u,v,q1,q⟩:=q;⟨u,v,q1,a6 hP o1 _ _ _ _ _ _ (λy g2 q=>a6 hP i1 _ _ _ _ _ _ (λz g3 q=>S0 (λg4 q=>a6 hP o2 _ _ _ _ _ _ (λy g5 q=>a6 hP i2 _ _ _ _ _ _ (λz g6 q=>S0 (λg q=>h.nx _ _ q) q) hx q) hx q) q) hx q) hx q⟩) hx q
 |.jx i p v,N,N',Z,g,E,E',h,hx,q=>let ⟨x,q1,q⟩:=q;⟨x,q1,a6 hP v _ _ _ _ _ _ (λz g1 q=>l9 (λw g2 q=>h.nx _ _ q) q) hx q⟩
 |.ifs c a b,N,N',Z,g,E,E',h,hx,q=>m8 hP c _ _ _ _ _ _ (λt g1 q=>E3 (λq=>wpS_mono hP a _ _ _ _ _ _ h hx q) (λq=>wpS_mono hP b _ _ _ _ _ _ h hx q) q) hx q
 |.eA t it b,N,N',Z,g,E,E',h,hx,q=>v5 hP it _ _ _ _ _ _ (λk g1 q=>VF h.nx (λx N2 Z g q=>y9 (λcj q=>wpS_mono hP b { N with nx:=N2,ct:=N2,bk:=N.nx } { N' with nx:=N2,ct:=N2,bk:=N'.nx } _ _ _ _ ⟨λ_ _ z=>z,h.rt,h.nx,λ_ _ z=>z⟩ hx q) q) q) hx q
 |.iO c b,N,N',Z,g,E,E',h,hx,q=>by
  obtain⟨W,w0,q⟩:=q;refine⟨W,w0,λm Z g w=>m8 hP c _ _ _ _ _ _ (λt g1 q=>E3 (λq=>?_) (h.nx _ _) q) hx (q m Z g w)⟩;obtain⟨N2,a,q⟩:=q;exact⟨N2,a,wpS_mono hP b { N with nx:=N2,ct:=N2,bk:=N.nx } { N' with nx:=N2,ct:=N2,bk:=N'.nx } _ _ _ _ ⟨λ_ _ z=>z,h.rt,h.nx,λ_ _ z=>z⟩ hx q⟩
 |.ret e,N,N',Z,g,E,E',h,hx,q=>a6 hP e _ _ _ _ _ _ h.rt hx q
 |.oy,N,N',Z,g,E,E',h,hx,q=>h.rt _ _ q
 |.brk,N,N',Z,g,E,E',h,hx,q=>h.bk _ _ q
 |.cont,N,N',Z,g,E,E',h,hx,q=>h.ct _ _ q
 |.raise x es,N,N',Z,g,E,E',h,hx,q=>p6 hP es _ _ _ _ _ _ (λvs g1 q=>⟨q.1,hx _ _ q.2⟩) hx q
 |.T7 b hs,N,N',Z,g,E,E',h,hx,q=>wpS_mono hP b _ _ _ _ _ _ h (λx g q=>DH hP h hx hs x g q) q
theorem b9(T:Nat->Option aJ):∀k,i6 (a8 T k)
 |0=>λf xs g Q Q' E E' h hx q=>q.elim
 |k+1=>λf xs g Q Q' E E' h hx q=>by
  obtain⟨m,a,b,q⟩:=q;exact⟨m,a,b,wpS_mono (b9 T k) m.body ⟨λ_ g'=>Q .bc g',Q,λ_ _=>False,λ_ _=>False⟩ _ _ _ _ _ ⟨λ_ _ z=>h _ _ z,h,λ_ _ z=>z,λ_ _ z=>z⟩ hx q⟩
def TupAt(K:PySem.W.Frag)(H:Hp)(a:Addr)(vs:List V):Prop :=
 H a=some (.tup vs)\/∃(o:Obj) (aL:Array Value) (n:Nat),K.lookup a=some o/\o.cls=.type "tuple"/\o.dict=none/\o.data=.seq aL n/\aL.size<=sizeLine/\Vals vs aL.toList
theorem TupAt.d(h:TupAt K H a vs):tP K H a vs:=h
theorem TupAt.sq{K:PySem.W.Frag}{H:Hp}{a:Addr}{vs:List V}(h:TupAt K H a vs):gw K H a vs:=h.d.sq
mutual
inductive b6(K:PySem.W.Frag)(ρ:List Addr)(H:Hp):D->V->Prop
 |bc:b6 K ρ H .bc .bc
 |bl (b:Bool):b6 K ρ H (.bl b) (.bl b)
 |int (i:Int):b6 K ρ H (.int i) (.int i)
 |str (x:Str):b6 K ρ H (.str x) (.str x)
 |ty (n:String):b6 K ρ H (.ty n) (.ty n)
 |ref {i:Nat} {a:Addr} (h:ρ[i]?=some a):b6 K ρ H (.ref i) (.ref a)
 |tup {l:List D} {a:Addr} {vs:List V} (h:TupAt K H a vs) (r:a4 K ρ H l vs):b6 K ρ H (.tup l) (.ref a)
inductive a4(K:PySem.W.Frag)(ρ:List Addr)(H:Hp):List D->List V->Prop
 |nil:a4 K ρ H [] []
 |cons {d:D} {v:V} {ds:List D} {vs:List V} (h:b6 K ρ H d v) (r:a4 K ρ H ds vs):a4 K ρ H (d::ds) (v::vs)
end
structure Ext(ρ:List Addr)(H:Hp)(bw:List Addr)(H':Hp):Prop where
 pre:∃more,bw=ρ++more
 tup:∀a xs,H a=some (.tup xs)->H' a=some (.tup xs)
theorem Ext.refl(ρ:List Addr)(H:Hp):Ext ρ H ρ H:=⟨⟨[],by simp⟩,λ_ _ h=>h⟩
theorem Ext.trans{ρ H bA H1 dM H2}(a:Ext ρ H bA H1)(b:Ext bA H1 dM H2):Ext ρ H dM H2:=by
 obtain⟨⟨m,rfl⟩,t⟩:=a;obtain⟨⟨m',rfl⟩,t'⟩:=b;exact⟨⟨m++m',by simp⟩,λx xs h=>t' _ _ (t _ _ h)⟩
theorem Ext.get{ρ H bw H'}(e:Ext ρ H bw H')(h:ρ[i]?=some a):bw[i]?=some a:=by
 obtain⟨⟨m,rfl⟩,_⟩:=e;rw[aG (ax.mp h).1];exact h
theorem TupAt.ext{K ρ H bw H'}(e:Ext ρ H bw H')(h:TupAt K H a vs):TupAt K H' a vs:=h.elim (λz=>.inl (e.tup _ _ z)) .inr
mutual
theorem b6.ext{K ρ H bw H'}(e:Ext ρ H bw H'):∀{d v},b6 K ρ H d v->b6 K bw H' d v
 |_,_,.bc=>.bc
 |_,_,.bl b=>.bl b
 |_,_,.int i=>.int i
 |_,_,.str x=>.str x
 |_,_,.ty n=>.ty n
 |_,_,.ref h=>.ref (e.get h)
 |_,_,.tup h r=>.tup (h.ext e) (a4.ext e r)
theorem a4.ext{K ρ H bw H'}(e:Ext ρ H bw H'):∀{ds vs},a4 K ρ H ds vs->a4 K bw H' ds vs
 |_,_,.nil=>.nil
 |_,_,.cons h r=>.cons (b6.ext e h) (a4.ext e r)
end
theorem a4.length{K ρ H}{ds:List D}{vs:List V}(h:a4 K ρ H ds vs):ds.length=vs.length:=by
 induction ds generalizing vs with
 |nil=>cases h;rfl
 |cons d ds ih =>
  cases h with
  |cons q r=>simp[ih r]
theorem a4.get{K ρ H}:∀{ds vs} {i:Nat} {d:D},a4 K ρ H ds vs->ds[i]?=some d->∃v,vs[i]?=some v/\b6 K ρ H d v
 |_,_,_,_,.nil,h=>by simp at h
 |_,_,0,_,.cons h _,e=>by simp at e;subst e;exact⟨_,rfl,h⟩
 |_,_,i+1,d,.cons _ r,e=>by
  obtain⟨v,h1,h2⟩:=a4.get (i:=i) (d:=d) r (by simpa using e);exact⟨v,by simpa using h1,h2⟩
theorem a4.set{K ρ H}{d:D}{v:V}(h:b6 K ρ H d v):∀{ds vs} (i:Nat),a4 K ρ H ds vs->a4 K ρ H (ds.set i d) (vs.set i v)
 |_,_,_,.nil=>.nil
 |_,_,0,.cons _ r=>.cons h r
 |_,_,i+1,.cons q r=>.cons q (a4.set h i r)
theorem a4.append{K ρ H}{ds es:List D}{ws:List V}(h:a4 K ρ H ds vs)(s:a4 K ρ H es ws):a4 K ρ H (ds++es) (vs++ws):=by
 induction ds generalizing vs with
 |nil=>cases h;exact s
 |cons d ds ih =>
  cases h with
  |cons q r=>exact .cons q (ih r)
theorem a4.rep{K ρ H}{ds:List D}{vs:List V}(r:a4 K ρ H ds vs):∀n,a4 K ρ H (List.replicate n ds).flatten (List.replicate n vs).flatten
 |0=>.nil
 |n+1=>by
  rw[bO,bO,cN,cN];exact a4.append r (a4.rep r n)
theorem a4.erase{K ρ H}:∀{ds:List D} {vs:List V} (i:Nat),a4 K ρ H ds vs->a4 K ρ H (ds.eraseIdx i) (vs.eraseIdx i)
 |_,_,_,.nil=>.nil
 |_,_,0,.cons _ r=>r
 |_,_,i+1,.cons q r=>.cons q (a4.erase i r)
theorem a4.take{K ρ H}:∀{ds:List D} {vs:List V} (n:Nat),a4 K ρ H ds vs->a4 K ρ H (ds.take n) (vs.take n)
 |_,_,0,_=>.nil
 |_,_,_+1,.nil=>.nil
 |_,_,n+1,.cons h r=>.cons h (a4.take n r)
theorem a4.drop{K ρ H}:∀{ds:List D} {vs:List V} (n:Nat),a4 K ρ H ds vs->a4 K ρ H (ds.drop n) (vs.drop n)
 |_,_,0,r=>r
 |_,_,_+1,.nil=>.nil
 |_,_,n+1,.cons _ r=>a4.drop n r
theorem a4.reverse{K ρ H}:∀{ds:List D} {vs:List V},a4 K ρ H ds vs->a4 K ρ H ds.reverse vs.reverse
 |_,_,.nil=>.nil
 |_,_,.cons h r=>by
  rw[fX,fX];exact a4.append (a4.reverse r) (.cons h .nil)
theorem a4.cut{K ρ H}{ds:List D}{vs:List V}(r:a4 K ρ H ds vs)(lo hi:Option Int):a4 K ρ H (M.cut ds lo hi) (Q9 vs lo hi):=by
 unfold M.cut Q9;rw[r.length];exact(r.drop _).take _
theorem a4.ints{K ρ H}:∀{ns:List Int} {vs:List V},a4 K ρ H (ns.map D.int) vs->vs=ns.map V.int
 |[],_,.nil=>rfl
 |_::_,_,.cons h r=>by cases h;rw[a4.ints r];rfl
theorem a4.ofInts{K ρ H}:∀(ns:List Int),a4 K ρ H (ns.map D.int) (ns.map V.int)
 |[]=>.nil
 |n::r=>.cons (.int n) (a4.ofInts r)
def qk(K:PySem.W.Frag)(H:Hp)(a:Addr)(vs:List V):Prop :=
 (∃o,H a=some (.iW o (.lst vs)))\/∃(o:Obj) (aL:Array Value) (n:Nat),K.lookup a=some o/\o.cls=.type "list"/\o.dict=none/\o.data=.seq aL n/\aL.size<=sizeLine/\Vals vs aL.toList
theorem qk.sq(h:qk K H a vs):eT K H a vs:=h.elim (λ⟨o,z⟩=>.inl (.inr ⟨o,z⟩)) .inr
inductive d6{α:Type}(K:PySem.W.Frag)(ρ:List Addr)(H:Hp):List (α×D)->List (α×V)->Prop
 |nil:d6 K ρ H [] []
 |cons {k:α} {d:D} {v:V} {ds:List (α×D)} {vs:List (α×V)} (h:b6 K ρ H d v) (r:d6 K ρ H ds vs):d6 K ρ H ((k,d)::ds) ((k,v)::vs)
theorem d6.ext{α:Type}{K ρ H bw H'}(e:Ext ρ H bw H'){ds:List (α×D)}{vs:List (α×V)}(h:d6 K ρ H ds vs):d6 K bw H' ds vs:=by
 induction h with
 |nil=>exact .nil
 |cons h r ih=>exact .cons (h.ext e) ih
theorem d6.drop{K ρ H}{ds:List (Key×D)}{vs:List (Key×V)}(k:Key)(h:d6 K ρ H ds vs):d6 K ρ H (delD ds k) (Y9 vs k):=by
 unfold delD Y9
 induction h with
 |nil=>exact .nil
 |cons h r ih =>
  rw[cX,cX];split
  ·exact .cons h ih
  ·exact ih
theorem d6.get{α:Type}{K ρ H}{ds:List (α×D)}{vs:List (α×V)}(h:d6 K ρ H ds vs):∀{i:Nat} {k:α} {d:D},ds[i]?=some (k,d)->∃v,vs[i]?=some (k,v)/\b6 K ρ H d v:=by
 induction h with
 |nil=>intro i k d e;simp at e
 |cons h r ih =>
  intro i k d e;cases i with
  |zero=>simp at e;obtain⟨rfl,rfl⟩:=e;exact⟨_,rfl,h⟩
  |succ i=>simpa using ih (by simpa using e)
theorem d6.length{α:Type}{K ρ H}{ds:List (α×D)}{vs:List (α×V)}(h:d6 K ρ H ds vs):ds.length=vs.length:=by
 induction h with
 |nil=>rfl
 |cons h r ih=>simp[ih]
def Z6(K:PySem.W.Frag)(ρ:List Addr)(H:Hp):Option D->Option V->Prop
 |some d,some v=>b6 K ρ H d v
 |none,none=>True
 |_,_=>False
theorem d6.val{K ρ H}:∀{ds vs} (k:Key),d6 K ρ H ds vs->Z6 K ρ H (E0 ds k) (J5 vs k)
 |_,_,k,.nil=>trivial
 |_,_,k,.cons (k:=k') h r=>by
  unfold E0 J5;rw[gQ,gQ];by_cases e:k'=k
  ·simp only[e,decide_true];exact h
  ·simp only[e,decide_false];exact d6.val k r
theorem d6.CC{K ρ H}:∀{ds vs} (k:Key),d6 K ρ H ds vs->(ds.any λkv=>decide (kv.1=k))=(vs.any λkv=>decide (kv.1=k))
 |_,_,k,.nil=>rfl
 |_,_,k,.cons h r=>by simp only[List.any_cons,d6.CC k r]
theorem d6.snoc{K ρ H}{k:Key}{d:D}{v:V}(h:b6 K ρ H d v){ds vs}(t:d6 K ρ H ds vs):d6 K ρ H (ds++[(k,d)]) (vs++[(k,v)]):=by
 induction ds generalizing vs with
 |nil=>cases t;exact .cons h .nil
 |cons d ds ih =>
  cases t with
  |cons q r=>exact .cons q (ih r)
theorem d6.Ab{K ρ H}{k:Key}{d:D}{v:V}(h:b6 K ρ H d v):∀{ds vs},d6 K ρ H ds vs->d6 K ρ H (ds.map λkv=>if kv.1=k then(kv.1,d) else kv) (vs.map λkv=>if kv.1=k then(kv.1,v) else kv)
 |_,_,.nil=>.nil
 |_,_,.cons (k:=k') q r=>by
  simp only[List.map_cons];by_cases e:k'=k
  ·rw[aK e,aK e];exact .cons h (d6.Ab h r)
  ·rw[aD e,aD e];exact .cons q (d6.Ab h r)
theorem d6.put{K ρ H}{k:Key}{d:D}{v:V}(h:b6 K ρ H d v){ds vs}(r:d6 K ρ H ds vs):d6 K ρ H (putD ds k d) (putK vs k v):=by
 unfold putD putK;rw[r.CC k];split
 ·exact r.Ab h
 ·exact r.snoc h
noncomputable abbrev k9(K:PySem.W.Frag)(x:Str)(C:Addr):Prop:=PySem.W.nsIn K mainGlobals x=some (some (.ref C))
theorem d6.look{K ρ H}{ds:List (Str×D)}{vs:List (Str×V)}(f:Str)(h:d6 K ρ H ds vs):Z6 K ρ H (ds.lookup f) (vs.lookup f):=by
 induction h with
 |nil=>trivial
 |cons h r ih =>
  rename_i k d v ds vs;rw[cc,cc];cases f==k
  ·exact ih
  ·exact h
theorem d6.n9{K ρ H}{f:Str}{d:D}{v:V}(h:b6 K ρ H d v){ds:List (Str×D)}{vs:List (Str×V)}(r:d6 K ρ H ds vs):d6 K ρ H (u3 f d ds) (L2.n9 f v vs):=by
 induction r with
 |nil=>exact .cons h .nil
 |cons q r ih =>
  unfold u3 L2.n9;split
  ·exact .cons h r
  ·exact .cons q ih
theorem X5{f:Str}{d:D}{p:Str->Prop}(hf:p f):∀{ds:List (Str×D)},(∀x∈ds,p x.1)->∀x∈u3 f d ds,p x.1
 |[],_,x,hx=>by
  have:x=(f,d):=by simpa[u3] using hx
  rw[this];exact hf
 |(k,e)::r,h,x,hx=>by
  unfold u3 at hx;split at hx
  ·rcases aw.mp hx with z|z
   ·rw[z];exact h (k,e) (by simp)
   ·exact h x (by simp[z])
  ·rcases aw.mp hx with z|z
   ·rw[z];exact h (k,e) (by simp)
   ·exact X5 hf (λy hy=>h y (by simp[hy])) x z
def OH(K:PySem.W.Frag)(ρ:List Addr)(H:Hp):O->HO->Prop
 |.lst l,.lst vs=>a4 K ρ H l vs
 |.bN kvs,.dK vs=>d6 K ρ H kvs vs
 |.set S n,.set S' n'=>S=S'/\n=n'
 |.ins c fs,.ins C _ vs=>k9 K c C/\ik K C/\d6 K ρ H fs vs/\∀x∈fs,q8 K C x.1
 |_,_=>False
theorem OH.ext{K ρ H bw H'}(e:Ext ρ H bw H'){o:O}{u:HO}(h:OH K ρ H o u):OH K bw H' o u:=by
 cases o<;>cases u<;>first|exact h.elim|exact a4.ext e h|exact d6.ext e h|exact⟨h.1,h.2.1,h.2.2.1.ext e,h.2.2.2⟩|exact h
theorem OH.qr{K ρ H}{xs:List V}(h:OH K ρ H o (.tup xs)):False:=by cases o<;>exact h
theorem OH.Rv{K ρ H}{ob:Obj}(h:OH K ρ H o (.iW ob u)):False:=by cases o<;>exact h
def F4(K:PySem.W.Frag)(ρ:List Addr)(H:Hp)(o:O)(a:Addr):Prop:=match o with
 |.ng l=>∃vs,qk K H a vs/\a4 K ρ H l vs
 |o=>∃u,H a=some u/\OH K ρ H o u
theorem F4.of{K ρ H}(hu:H a=some u)(h:OH K ρ H o u):F4 K ρ H o a:=by
 cases o<;>first|exact⟨u,hu,h⟩|(cases u<;>exact h.elim)
theorem F4.inv{K ρ H}(m:o.mut=true)(h:F4 K ρ H o a):∃u,H a=some u/\OH K ρ H o u:=by
 cases o<;>first|exact h|cases m
theorem F4.lst{K ρ H}{l:List D}{a:Addr}(h:F4 K ρ H (.lst l) a):∃vs,H a=some (.lst vs)/\a4 K ρ H l vs:=by
 obtain⟨u,h1,h2⟩:=h;cases u<;>first|exact⟨_,h1,h2⟩|exact h2.elim
theorem F4.bN{K ρ H}{l:List (Key×D)}{a:Addr}(h:F4 K ρ H (.bN l) a):∃vs,H a=some (.dK vs)/\d6 K ρ H l vs:=by
 obtain⟨u,h1,h2⟩:=h;cases u<;>first|exact⟨_,h1,h2⟩|exact h2.elim
theorem F4.set{K ρ H}{S:Int->Bool}{n:Nat}{a:Addr}(h:F4 K ρ H (.set S n) a):H a=some (.set S n):=by
 obtain⟨u,h1,h2⟩:=h;cases u<;>first|(obtain⟨rfl,rfl⟩:=(show _/\_ from h2);exact h1)|exact h2.elim
theorem F4.ins{K ρ H}{c:Str}{fs:List (Str×D)}{a:Addr}(h:F4 K ρ H (.ins c fs) a):∃C dx vs,H a=some (.ins C dx vs)/\k9 K c C/\ik K C/\d6 K ρ H fs vs/\∀x∈fs,q8 K C x.1:=by
 obtain⟨u,h1,h2⟩:=h;cases u<;>first|exact⟨_,_,_,h1,h2⟩|exact h2.elim
structure Rl(K:PySem.W.Frag)(ρ:List Addr)(g:G)(H:Hp):Prop where
 len:ρ.length=g.length
 obj:∀(i:Nat) o a,g[i]?=some o->ρ[i]?=some a->F4 K ρ H o a
 nd:∀(i j:Nat) o o' a,g[i]?=some o->g[j]?=some o'->o.mut=true->o'.mut=true->ρ[i]?=some a->ρ[j]?=some a->i=j
section
variable{ρ:List Addr}
theorem Rl.lst(R:Rl K ρ g H){i:Nat}{l:List D}{a:Addr}(h:g[i]?=some (.lst l))(ha:ρ[i]?=some a):∃vs,H a=some (.lst vs)/\a4 K ρ H l vs:=(R.obj _ _ _ h ha).lst
theorem Rl.bN(R:Rl K ρ g H){i:Nat}{l:List (Key×D)}{a:Addr}(h:g[i]?=some (.bN l))(ha:ρ[i]?=some a):∃vs,H a=some (.dK vs)/\d6 K ρ H l vs:=(R.obj _ _ _ h ha).bN
theorem Rl.set(R:Rl K ρ g H){i:Nat}{S:Int->Bool}{n:Nat}{a:Addr}(h:g[i]?=some (.set S n))(ha:ρ[i]?=some a):H a=some (.set S n):=(R.obj _ _ _ h ha).set
theorem Rl.ins(R:Rl K ρ g H){i:Nat}{c:Str}{fs:List (Str×D)}{a:Addr}(h:g[i]?=some (.ins c fs))(ha:ρ[i]?=some a):∃C dx vs,H a=some (.ins C dx vs)/\k9 K c C/\ik K C/\d6 K ρ H fs vs/\∀x∈fs,q8 K C x.1:=(R.obj _ _ _ h ha).ins
theorem Rl.items(R:Rl K ρ g H)(h:b7 g i=some l)(ha:ρ[i]?=some a):∃vs,eT K H a vs/\a4 K ρ H l vs:=by
 cases e:g[i]? with
 |none=>rw[b7,e] at h;cases h
 |some o =>
  rw[b7,e] at h;have q:=R.obj _ _ _ e ha;cases o with
  |lst m=>cases h;obtain⟨vs,z,r⟩:=q.lst;exact⟨vs,eT.of z,r⟩
  |ng m=>cases h;obtain⟨vs,z,r⟩:=q;exact⟨vs,z.sq,r⟩
  |_=>cases h
theorem o8{o:HO}(hp:H p=none):Ext ρ H ρ (upd H p o):=⟨⟨[],by simp⟩,λa xs h=>by rw[a7 (d4 h hp)];exact h⟩
theorem qk.upd{p a:Addr}{o:HO}{vs:List V}(h:qk K H a vs)(hp:∀ob u,H p≠some (.iW ob u)):qk K (upd H p o) a vs:=by
 rcases h with⟨ob,z⟩|z
 ·refine .inl ⟨ob,?_⟩;rw[a7 ?_]
  ·exact z
  ·intro e;subst e;exact hp _ _ z
 ·exact .inr z
theorem F4.upd{p a:Addr}{o:O}{u:HO}{bw:List Addr}(h:F4 K ρ H o a)(eR:o.mut=true->a≠p)(hp:∀ob u,H p≠some (.iW ob u))(e:Ext ρ H bw (L2.upd H p u)):F4 K bw (L2.upd H p u) o a:=by
 cases hm:o.mut with
 |true =>
  obtain⟨u',h1,h2⟩:=h.inv hm;exact .of (by rw[a7 (eR hm)];exact h1) (h2.ext e)
 |false =>
  cases o<;>first|cases hm|skip
  obtain⟨vs,z,r⟩:=h;exact⟨vs,z.upd hp,r.ext e⟩
theorem Rl.grow{o:HO}(R:Rl K ρ g H)(hp:H p=none):Rl K ρ g (upd H p o):=by
 have e:Ext ρ H ρ (upd H p o):=o8 hp;refine⟨R.len,λi ob a h1 h2=>?_,R.nd⟩;have q:=R.obj _ _ _ h1 h2;refine q.upd (λhm=>?_) (λob u z=>by rw[hp] at z;cases z) e;obtain⟨u,h1,_⟩:=q.inv hm;exact d4 h1 hp
theorem Rl.m9(R:Rl K ρ g H)(p:Addr):(ρ++[p])[g.length]?=some p:=by rw[<- R.len];simp
theorem t8{o:HO}(hp:H p=none):Ext ρ H (ρ++[p]) (upd H p o):=⟨⟨[p],rfl⟩,(o8 (ρ:=ρ) hp).tup⟩
theorem Rl.new(R:Rl K ρ g H)(hp:H p=none)(r:OH K ρ H o u):Rl K (ρ++[p]) (g++[o]) (upd H p u):=by
 have e:Ext ρ H (ρ++[p]) (upd H p u):=t8 hp;have old:∀{i:Nat} {ob:O} {a:Addr},g[i]?=some ob->(ρ++[p])[i]?=some a->ρ[i]?=some a:=λ{i ob a} h1 h2=>by
  rw[aG (by rw[R.len];exact(ax.mp h1).1)] at h2;exact h2
 have split:∀{i:Nat} {ob:O},(g++[o])[i]?=some ob->g[i]?=some ob\/(i=g.length/\ob=o):=λ{i ob} h=>by
  rcases jG i g.length with q|q|q
  ·rw[aG q] at h;exact .inl h
  ·subst q;simp at h;exact .inr ⟨rfl,h.symm⟩
  ·rw[eP (by simp;omega)] at h;cases h
 refine⟨by simp[R.len],λi ob a h1 h2=>?_,λi j o1 o2 a h1 h2 m1 m2 h3 h4=>?_⟩
 ·rcases split h1 with q|⟨rfl,rfl⟩
  ·have z:=R.obj _ _ _ q (old q h2);refine z.upd (λhm=>?_) (λob u z=>by rw[hp] at z;cases z) e;obtain⟨u,h1,_⟩:=z.inv hm;exact d4 h1 hp
  ·rw[R.m9] at h2;cases h2;exact .of f9 (r.ext e)
 ·have nq:∀{i:Nat} {o:O} {a:Addr},g[i]?=some o->o.mut=true->ρ[i]?=some a->a≠p:=λ{i o a} h1 hm h2=>by
   obtain⟨u,z,_⟩:=(R.obj _ _ _ h1 h2).inv hm;exact d4 z hp
  rcases split h1 with q|⟨rfl,_⟩
  ·rcases split h2 with q'|⟨rfl,_⟩
   ·exact R.nd _ _ _ _ _ q q' m1 m2 (old q h3) (old q' h4)
   ·rw[R.m9] at h4;cases h4;exact absurd rfl (nq q m1 (old q h3))
  ·rcases split h2 with q'|⟨rfl,_⟩
   ·rw[R.m9] at h3;cases h3;exact absurd rfl (nq q' m2 (old q' h4))
   ·rfl
theorem Rl.sup{H':Hp}(R:Rl K ρ g H)(e:∀b u,H b=some u->H' b=some u):Rl K ρ g H':=by
 have x:Ext ρ H ρ H':=⟨⟨[],by simp⟩,λb xs h=>e _ _ h⟩
 refine⟨R.len,λi o a h1 h2=>?_,R.nd⟩;have q:=R.obj _ _ _ h1 h2;cases hm:o.mut with
 |true =>
  obtain⟨u,z1,z2⟩:=q.inv hm;exact .of (e _ _ z1) (z2.ext x)
 |false =>
  cases o<;>first|cases hm|skip
  obtain⟨vs,z,r⟩:=q;exact⟨vs,z.imp (λ⟨o,z⟩=>⟨o,e _ _ z⟩) id,r.ext x⟩
theorem Rl.alloc(R:Rl K ρ g H)(hp:H p=none)(r:a4 K ρ H l vs):Rl K (ρ++[p]) (g++[.lst l]) (upd H p (.lst vs)):=R.new hp r
theorem Rl.put{o':O}(R:Rl K ρ g H)(h:g[i]?=some o)(hm:o.mut=true)(ha:ρ[i]?=some a)(r:OH K ρ H o' u) :
  Rl K ρ (g.set i o') (upd H a u)/\Ext ρ H ρ (upd H a u):=by
 obtain⟨u0,z0,Ba⟩:=(R.obj _ _ _ h ha).inv hm;have e:Ext ρ H ρ (upd H a u):=⟨⟨[],by simp⟩,λb xs q=>by rw[a7];exact q;intro z;subst z;rw[z0] at q;cases q;exact Ba.qr⟩
 refine⟨⟨by simp[R.len],λj ob b h1 h2=>?_,λj k o1 o2 b h1 h2 m1 m2 h3 h4=>?_⟩,e⟩
 ·by_cases ie:i=j
  ·subst ie;rw[ha] at h2;cases h2;have hi:i<g.length:=(ax.mp h).1;rw[aY hi] at h1;cases h1;exact .of f9 (r.ext e)
  ·rw[aN ie] at h1;refine(R.obj _ _ _ h1 h2).upd (λoN ez=>?_) (λob u z=>by rw[z0] at z;cases z;exact Ba.Rv) e;subst ez;exact ie (R.nd _ _ _ _ _ h h1 hm oN ha h2)
 ·have back:∀{j:Nat} {m:O},(g.set i o')[j]?=some m->m.mut=true->∃m',g[j]?=some m'/\m'.mut=true:=λ{j m} q oN=>by
   by_cases ie:i=j
   ·subst ie;exact⟨o,h,hm⟩
   ·rw[aN ie] at q;exact⟨m,q,oN⟩
  obtain⟨_,q1,n1⟩:=back h1 m1;obtain⟨_,q2,n2⟩:=back h2 m2;exact R.nd _ _ _ _ _ q1 q2 n1 n2 h3 h4
theorem Rl.write{l':List D}(R:Rl K ρ g H)(h:g[i]?=some (.lst l))(ha:ρ[i]?=some a)(r:a4 K ρ H l' vs) :
  Rl K ρ (g.set i (.lst l')) (upd H a (.lst vs))/\Ext ρ H ρ (upd H a (.lst vs)):=R.put h rfl ha r
end
structure j8(K:PySem.W.Frag)(ρ:List Addr)(H:Hp)(Z:S)(bE:St):Prop where
 len:Z.length=bE.length
 val:∀(i:Nat) d,Z[i]?=some (some d)->∃v,bE[i]?=some (some v)/\b6 K ρ H d v
section
variable{ρ bw:List Addr}{H':Hp}
theorem j8.ext{Z bE}(e:Ext ρ H bw H')(r:j8 K ρ H Z bE):j8 K bw H' Z bE:=⟨r.len,λi d h=>let ⟨v,a,b⟩:=r.val i d h;⟨v,a,b.ext e⟩⟩
theorem j8.set{Z bE d v}(r:j8 K ρ H Z bE)(i:Nat)(h:b6 K ρ H d v):j8 K ρ H (Z.set i (some d)) (bE.set i (some v)):=by
 refine⟨by simp[r.len],λj e q=>?_⟩;by_cases ie:i=j
 ·subst ie;have hi:i<Z.length:=by
   have:=(ax.mp q).1;simpa using this
  rw[aY hi] at q;cases q;exact⟨v,by rw[aY (by rw[<- r.len];exact hi)],h⟩
 ·rw[aN ie] at q ⊢;exact r.val j e q
theorem j8.start{ds vs}{n:Nat}(r:a4 K ρ H ds vs):j8 K ρ H (ds.map some++List.replicate (n-ds.length) none) (vs.map some++List.replicate (n-vs.length) none):=by
 refine⟨by simp[r.length],λi d h=>?_⟩;by_cases hi:i<ds.length
 ·rw[aG (by simpa using hi),aF] at h;cases e:ds[i]? with
  |none=>rw[e] at h;cases h
  |some x =>
   rw[e] at h;cases h;obtain⟨v,h1,h2⟩:=r.get e;refine⟨v,?_,h2⟩;rw[aG (by rw[ay,<- r.length];exact hi),aF,h1]
   rfl
 ·rw[cD (by simpa using hi),cW] at h;split at h<;>cases h
theorem j8.a9{Z bE}(r:j8 K ρ H Z bE)(a9:List Nat)(n:Nat):j8 K ρ H (O5 Z a9 n) (o7 bE a9 n):=by
 refine⟨by simp[O5,o7],λi d h=>?_⟩;unfold O5 at h;unfold o7;by_cases hi:i<a9.length
 ·rw[aG (by simpa using hi),aF,az hi] at h;rw[aG (by simpa using hi),aF,az hi];simp only[Option.map_some] at h ⊢;cases e:Z[a9[i]]? with
  |none=>rw[e] at h;cases h
  |some x =>
   rw[e] at h;have hx:x=some d:=aB h;subst hx;obtain⟨v,h1,h2⟩:=r.val _ _ e;exact⟨v,by rw[h1];rfl,h2⟩
 ·rw[cD (by simpa using hi),cW] at h;split at h<;>cases h
end
end M
namespace M
open PySem L2 PySem.Spec PyProof.Rows
variable{g:G}{l:List D}{vs:List V}{b:Bool}{d:D}{X:Cx}{ρ:List Addr}{H:Hp}{Z:L2.St}{s:Shared}{v x:V}
def LQ(K:PySem.W.Frag)(ρ:List Addr)(H:Hp)(Q:VK):KD:=λd g'=>∀bw H' v,Ext ρ H bw H'->Rl K bw g' H'->b6 K bw H' d v->Q v H'
theorem LQ.ext{K ρ H bA H1 Q d g}(e:Ext ρ H bA H1)(h:LQ K ρ H Q d g):LQ K bA H1 Q d g:=λbw H' v e' R r=>h bw H' v (e.trans e') R r
theorem LQ.now{K ρ H Q d g v}(h:LQ K ρ H Q d g)(R:Rl K ρ g H)(r:b6 K ρ H d v):Q v H:=h ρ H v (.refl _ _) R r
theorem LQ.new{K ρ H Q}{p:Addr}(h:LQ K ρ H Q (.ref g.length) (g++[.lst l]))(R:Rl K ρ g H)(hp:H p=none)(r:a4 K ρ H l vs):Q (.ref p) (upd H p (.lst vs)) :=
 h (ρ++[p]) _ _ (t8 hp) (R.alloc hp r) (.ref (R.m9 p))
theorem LQ.tup{K ρ H Q}{g:G}{l:List D}{vs:List V}{p:Addr}(h:LQ K ρ H Q (.tup l) g)(R:Rl K ρ g H)(hp:H p=none)(r:a4 K ρ H l vs):Q (.ref p) (upd H p (.tup vs)) :=
 h ρ _ _ (o8 hp) (R.grow hp) (.tup (.inl f9) (r.ext (o8 hp)))
def r2(K:PySem.W.Frag)(p:Pr):R2:=λx y H Q=>∃d e g ρ,Rl K ρ g H/\b6 K ρ H d x/\b6 K ρ H e y/\cI p [d,e] g (LQ K ρ H Q)
def r1(K:PySem.W.Frag)(p:Pr):V->Hp->VK->Prop:=λx H Q=>∃d g ρ,Rl K ρ g H/\b6 K ρ H d x/\cI p [d] g (LQ K ρ H Q)
def rN(K:PySem.W.Frag)(p:Pr):List V->Hp->VK->Prop:=λxs H Q=>∃ds g ρ,Rl K ρ g H/\a4 K ρ H ds xs/\cI p ds g (LQ K ρ H Q)
theorem j6{n:Nat}(h:n<=100000):n<=sizeLine:=aI h (by decide)
theorem yS{n:Nat}(h:n<100000):n<sizeLine:=ak h (by decide)
theorem b6.f7{K ρ H i v}(h:b6 K ρ H (.int i) v):v=.int i:=by cases h;rfl
theorem b6.A7{K ρ H i v}(h:b6 K ρ H (.str i) v):v=.str i:=by cases h;rfl
theorem b6.K7{K ρ H i v}(h:b6 K ρ H (.bl i) v):v=.bl i:=by cases h;rfl
theorem b6.vh{K ρ H v}(h:b6 K ρ H .bc v):v=.bc:=by cases h;rfl
theorem b6.Sr{K ρ H n v}(h:b6 K ρ H (.ty n) v):v=.ty n:=by cases h;rfl
theorem b6.d8{K ρ H i v}(h:b6 K ρ H (.ref i) v):∃a,v=.ref a/\ρ[i]?=some a:=by cases h;exact⟨_,rfl,by assumption⟩
theorem b6.v9{K ρ H l v}(h:b6 K ρ H (.tup l) v):∃a vs,v=.ref a/\TupAt K H a vs/\a4 K ρ H l vs:=by cases h;exact⟨_,_,rfl,by assumption,by assumption⟩
theorem a4.one{K ρ H d vs}(h:a4 K ρ H [d] vs):∃v,vs=[v]/\b6 K ρ H d v:=by
 cases h with
 |cons r rr=>cases rr;exact⟨_,rfl,r⟩
theorem a4.two{K ρ H d e vs}(h:a4 K ρ H [d,e] vs):∃v w,vs=[v,w]/\b6 K ρ H d v/\b6 K ρ H e w:=by
 cases h with
 |cons r rr=>obtain⟨w,rfl,q⟩:=rr.one;exact⟨_,_,rfl,r,q⟩
theorem n5{a b c:D}(h:[a,b]=[c,d]):a=c/\b=d:=by cases h;exact⟨rfl,rfl⟩
section
theorem Kt(op:Operator):eY X (binaryOp op) (r2 X.K (.bin op)):=by
 intro pins s Z H x y v u Q I rx ry h;obtain⟨d,e,g,ρ,R,rd,re,d',g',h,q⟩:=h;rcases h with⟨i,j,r,ex,ha,rfl,rfl⟩|⟨rfl,h⟩|⟨rfl,h⟩
 ·obtain⟨rfl,rfl⟩:=n5 ex;obtain rfl:=rd.f7;obtain rfl:=re.f7;have fin:=q.now R (.int r);cases op<;>first|exact(show False from ha).elim|skip
  ·cases ha;exact Kr pins s Z H _ _ v u Q I rx ry ⟨i,j,rfl,rfl,fin⟩
  ·cases ha;exact KC pins s Z H _ _ v u Q I rx ry ⟨i,j,rfl,rfl,fin⟩
  ·obtain⟨hc,rfl⟩:=ha;exact Kx pins s Z H _ _ v u Q I rx ry ⟨i,j,rfl,rfl,hc,fin⟩
  ·obtain⟨hc,rfl⟩:=ha;exact Kw pins s Z H _ _ v u Q I rx ry ⟨i,j,rfl,rfl,hc,fin⟩
  ·obtain⟨hc,rfl⟩:=ha;exact Ky pins s Z H _ _ v u Q I rx ry ⟨i,j,rfl,rfl,hc,fin⟩
  ·obtain⟨hc,rfl⟩:=ha;exact KA pins s Z H _ _ v u Q I rx ry ⟨i,j,rfl,rfl,hc,fin⟩
  ·cases ha;exact RA pins s Z H _ _ v u Q I rx ry ⟨i,j,rfl,rfl,fin⟩
  ·cases ha;exact Ks pins s Z H _ _ v u Q I rx ry ⟨i,j,rfl,rfl,fin⟩
  ·obtain⟨hc,rfl⟩:=ha;exact Nf pins s Z H _ _ v u Q I rx ry ⟨i,j,rfl,rfl,hc,fin⟩
 ·rcases h with⟨l,m,ex,hz,rfl,rfl⟩|⟨a,b,l,m,ex,ha,hb,hz,rfl,rfl⟩|⟨x',y',ex,hz,rfl,rfl⟩
  ·obtain⟨rfl,rfl⟩:=n5 ex;obtain⟨a,vs,rfl,ta,rs⟩:=rd.v9;obtain⟨b,ws,rfl,tb,rt⟩:=re.v9;refine Xm pins s Z H _ _ v u Q I rx ry ⟨a,b,vs,ws,rfl,rfl,ta.sq,tb.sq,?_,λz=>?_,λz=>?_,λp hp=>q.tup R hp (rs.append rt)⟩
   ·rw[<- rs.length,<- rt.length];exact j6 hz
   ·subst z;cases rs;exact q.now R (.tup tb rt)
   ·subst z;cases rt;rw[fk] at q;exact q.now R (.tup ta rs)
  ·obtain⟨rfl,rfl⟩:=n5 ex;obtain⟨a',rfl,ra⟩:=rd.d8;obtain⟨b',rfl,rb⟩:=re.d8;obtain⟨vs,z1,rs⟩:=R.lst ha ra;obtain⟨ws,z2,rt⟩:=R.lst hb rb;exact Ku pins s Z H _ _ v u Q I rx ry ⟨_,_,vs,ws,rfl,rfl,z1,z2,by rw[<- rs.length,<- rt.length];exact j6 hz,λp hp=>q.new R hp (rs.append rt)⟩
  ·obtain⟨rfl,rfl⟩:=n5 ex;obtain rfl:=rd.A7;obtain rfl:=re.A7;exact Vp pins s Z H _ _ v u Q I rx ry ⟨_,_,rfl,rfl,j6 hz,q.now R (.str _)⟩
 ·rcases h with⟨a,l,n,ex,ha,h1,h2,hz,rfl,rfl⟩|⟨l,n,ex,eR,h1,h2,hz,rfl,rfl⟩
  rotate_left
  ·obtain⟨rfl,rfl⟩:=n5 ex;obtain⟨a',vs,rfl,ta,rs⟩:=rd.v9;obtain rfl:=re.f7;refine Nh pins s Z H _ _ v u Q I rx ry ⟨_,_,vs,rfl,rfl,ta.sq,λz=>?_,h1,h2,by rw[<- rs.length];exact j6 hz,λz=>?_,λp hp=>q.tup R hp (rs.rep _)⟩
   ·subst z;cases rs;exact eR rfl
   ·subst z;have:(List.replicate (Int.toNat 1) l).flatten=l:=by simp
    rw[this] at q;exact q.now R (.tup ta rs)
  obtain⟨rfl,rfl⟩:=n5 ex;obtain⟨a',rfl,ra⟩:=rd.d8;obtain rfl:=re.f7;obtain⟨vs,z1,rs⟩:=R.lst ha ra;exact Kz pins s Z H _ _ v u Q I rx ry ⟨_,_,vs,rfl,rfl,z1,by omega,by omega,by rw[<- rs.length];exact j6 hz,λp hp=>q.new R hp (rs.rep _)⟩
theorem RB(op:UnaryOp):vS X (unaryOp op) (r1 X.K (.un op)):=by
 intro pins s Z H x v Q I rx h;obtain⟨d,g,ρ,R,rd,d',g',⟨rfl,i,ex,rfl,rfl⟩,q⟩:=h;cases ex;obtain rfl:=rd.f7;exact Mi pins s Z H _ v Q I rx ⟨_,rfl,q.now R (.int _)⟩
section
variable{pins:List (Addr×Obj)}
theorem EX(I:Inv X pins Z H s)(R:Rl X.K ρ g H)(n:Nat)(ih:∀{d:D} {v:V} {u:Value} {p:PyData},rd g n d=some p->b6 X.K ρ H d v->RelV v u->∃as,Reads s.heap u p as/\p.depth<=n):∀{vs:List V} {us:List Value} {ps:List PyData},l.mapM (rd g n)=some ps->a4 X.K ρ H l vs->Vals vs us->∃as,ReadsAll s.heap us ps as/\PyData.depthAll ps<=n:=by
 induction l with
 |nil =>
  intro vs us ps h rs rv;cases rs;cases rv;simp at h;subst h;exact⟨_,.nil,bX _⟩
 |cons d l il =>
  intro vs us ps h rs rv;cases rs with
  |cons gH rs =>
   cases rv with
   |cons ru rv =>
    rw[List.mapM_cons] at h;cases e:rd g n d with
    |none=>rw[e] at h;cases h
    |some p =>
     rw[e] at h;cases e2:l.mapM (rd g n) with
     |none=>rw[e2] at h;cases h
     |some qs =>
      rw[e2] at h;cases h;obtain⟨as,q1,d1⟩:=ih e gH ru;obtain⟨bs,q2,d2⟩:=il e2 rs rv;refine⟨_,.cons q1 q2,?_⟩;simp only[PyData.depthAll];omega
theorem P6(I:Inv X pins Z H s)(R:Rl X.K ρ g H)(n:Nat):∀{d:D} {v:V} {u:Value} {p:PyData},rd g n d=some p->b6 X.K ρ H d v->RelV v u->∃as,Reads s.heap u p as/\p.depth<=n:=by
 induction n with
 |zero =>
  intro d v u p h r ru;cases r with
  |bc=>simp only[rd] at h;cases h;cases ru;exact⟨_,.none,Nat.zero_le _⟩
  |bl b=>simp only[rd] at h;cases h;cases ru;exact⟨_,.bool b,Nat.zero_le _⟩
  |int i=>simp only[rd] at h;cases h;obtain⟨t,rfl⟩:=ru;exact⟨_,.int i t,Nat.zero_le _⟩
  |str x=>simp only[rd] at h;cases h;obtain⟨t,rfl⟩:=ru;exact⟨_,.str x t,Nat.zero_le _⟩
  |_=>simp only[rd] at h;cases h
 |succ n ih =>
  intro d v u p h r ru;cases r with
  |bc=>simp only[rd] at h;cases h;cases ru;exact⟨_,.none,Nat.zero_le _⟩
  |bl b=>simp only[rd] at h;cases h;cases ru;exact⟨_,.bool b,Nat.zero_le _⟩
  |int i=>simp only[rd] at h;cases h;obtain⟨t,rfl⟩:=ru;exact⟨_,.int i t,Nat.zero_le _⟩
  |str x=>simp only[rd] at h;cases h;obtain⟨t,rfl⟩:=ru;exact⟨_,.str x t,Nat.zero_le _⟩
  |ty x=>simp only[rd] at h;cases h
  |ref ha =>
   rename_i i a;simp only[rd] at h;cases e:b7 g i with
   |none=>rw[e] at h;cases h
   |some l =>
    rw[e] at h;dsimp only at h;cases e2:l.mapM (rd g n) with
    |none=>rw[e2] at h;cases h
    |some ps =>
     rw[e2] at h;cases h;cases ru;obtain⟨vs,hq,rs⟩:=R.items e ha;obtain⟨aL,rv,p,hz⟩:=I.list hq;obtain⟨as,q,hd⟩:=EX I R n ih e2 rs rv;obtain⟨o,ho,hc,k,oP⟩:=p.isList;refine⟨_,.list ho hc oP (by simpa using q),?_⟩;simp only[PyData.depth];omega
  |tup ht rs =>
   rename_i l a vs;simp only[rd] at h;cases e2:l.mapM (rd g n) with
   |none=>rw[e2] at h;cases h
   |some ps =>
    rw[e2] at h;cases h;cases ru;obtain⟨aL,rv,pt,hz⟩:=I.tuple ht.sq;obtain⟨as,q,hd⟩:=EX I R n ih e2 rs rv;obtain⟨o,ho,hc,k,oP⟩:=id pt;refine⟨_,.tuple ho hc oP (by simpa using q),?_⟩;simp only[PyData.depth];omega
end
end
theorem vw{α:Type}[BEq α][LawfulBEq α][DecidableEq α](a b:α):decide (a=b)=(a==b):=by
 by_cases e:a=b
 ·subst e;simp
 ·rw[aR e];exact(cT.mpr e).symm
theorem L8{K ρ H}{c:Key}(h:Q5 d=some c)(r:b6 K ρ H d v):v=kV c:=by
 cases r<;>first|(cases h;rfl)|cases h
theorem Z6.some{K ρ H}{o:Option V}{d:D}(h:Z6 K ρ H (some d) o):∃v,o=some v/\b6 K ρ H d v:=by
 cases o with
 |none=>exact h.elim
 |some v=>exact⟨v,rfl,h⟩
theorem Z6.isSome{K ρ H}{o:Option V}{d:Option D}(h:Z6 K ρ H d o):d.isSome=o.isSome:=by
 cases o<;>cases d<;>first|rfl|exact h.elim
theorem CN{pins:List (Addr×Obj)}{e:D}{y:V}{v u:Value}{Q:VK}(hu:X.A.units+100<cLine)(I:Inv X pins Z H s)(rx:RelV x v)(ry:RelV y u)(R:Rl X.K ρ g H)(gH:b6 X.K ρ H d x)(re:b6 X.K ρ H e y)(h:sA g d e b)(neg:Bool)(q:Q (.bl (xor neg b)) H):wpAny (model X.prog X.w) X.A (compareOp (if neg then .NotEq else .Eq) v u) (EP X pins Z Q) X.xe s:=by
 rcases h with⟨i,j,rfl,rfl,rfl⟩|⟨i,j,rfl,rfl,rfl⟩|⟨i,j,rfl,rfl,rfl⟩|⟨p,p',h1,h2,c1,c2,rfl⟩
 ·obtain rfl:=gH.f7;obtain rfl:=re.f7;cases neg
  ·exact zK pins s Z H _ _ v u Q I rx ry ⟨rfl,by rw[vy];simpa[vw] using q⟩
  ·exact zL pins s Z H _ _ v u Q I rx ry ⟨rfl,by rw[vy];simpa[vw] using q⟩
 ·obtain rfl:=gH.K7;obtain rfl:=re.K7;cases neg
  ·exact zK pins s Z H _ _ v u Q I rx ry ⟨rfl,by rw[vd];simpa using q⟩
  ·exact zL pins s Z H _ _ v u Q I rx ry ⟨rfl,by rw[vd];simpa using q⟩
 ·obtain rfl:=gH.A7;obtain rfl:=re.A7;cases neg
  ·exact zK pins s Z H _ _ v u Q I rx ry ⟨rfl,by rw[vz];simpa[vw] using q⟩
  ·exact zL pins s Z H _ _ v u Q I rx ry ⟨rfl,by rw[vz];simpa[vw] using q⟩
 ·obtain⟨as,q1,d1⟩:=P6 I R 6 h1 gH rx;obtain⟨bs,q2,d2⟩:=P6 I R 6 h2 re ry;have hr:X.A.units+min p.depth p'.depth<cLine:=by omega
  cases neg
  ·exact SeqAt.compareEq_reads q1 q2 c1 c2 hr ⟨.bl _,H,I,rfl,by simpa using q⟩
  ·exact SeqAt.compareNe_reads q1 q2 c1 c2 hr ⟨.bl _,H,I,rfl,by simpa using q⟩
theorem in_of{pins:List (Addr×Obj)}{e:D}{y:V}{v u:Value}{Q:VK}(hu:X.A.units+100<cLine)(I:Inv X pins Z H s)(rx:RelV x v)(ry:RelV y u)(R:Rl X.K ρ g H)(gH:b6 X.K ρ H d x)(re:b6 X.K ρ H e y)(h:inR g d e b)(neg:Bool)(q:Q (.bl (xor neg b)) H):wpAny (model X.prog X.w) X.A (compareOp (if neg then .NotIn else .In) v u) (EP X pins Z Q) X.xe s:=by
 rcases h with⟨a,kvs,c,rfl,ha,hc,rfl⟩|⟨l,ps,p,h0,h1,h2,c1,c2,rfl⟩
 ·obtain⟨a',rfl,ra⟩:=re.d8;obtain⟨vs,z,rs⟩:=R.bN ha ra;have:=L8 hc gH;subst this;cases ry;rw[(rs.val c).isSome] at q;cases neg
  ·exact OK (by omega) I (U4.k z) rx λs' I'=>⟨.bl _,H,I',rfl,by simpa using q⟩
  ·exact Mz (by omega) I (U4.k z) rx λs' I'=>⟨.bl _,H,I',rfl,by simpa using q⟩
 ·obtain⟨as,q1,d1⟩:=P6 I R 6 h2 gH rx;cases e with
  |tup m =>
   cases h0;have h3:rd g 7 (.tup l)=some (.tuple ps):=by simp only[rd];rw[show l.mapM (rd g 6)=some ps from h1];rfl
   obtain⟨bs,q2,d2⟩:=P6 I R 7 h3 re ry;have hr:X.A.units+1+min (PyData.depthAll ps) p.depth<cLine:=by omega
   cases neg
   ·exact SeqAt.in_tuple_reads q2 q1 c1 c2 hr ⟨.bl _,H,I,rfl,by simpa using q⟩
   ·exact SeqAt.notIn_tuple_reads q2 q1 c1 c2 hr ⟨.bl _,H,I,rfl,by simpa using q⟩
  |ref a =>
   have h3:rd g 7 (.ref a)=some (.list ps):=by
    simp only[rd];rw[show b7 g a=some l from h0];dsimp only;rw[show l.mapM (rd g 6)=some ps from h1]
    rfl
   obtain⟨bs,q2,d2⟩:=P6 I R 7 h3 re ry;have hr:X.A.units+1+min (PyData.depthAll ps) p.depth<cLine:=by omega
   cases neg
   ·exact SeqAt.in_list_reads q2 q1 c1 c2 hr ⟨.bl _,H,I,rfl,by simpa using q⟩
   ·exact SeqAt.notIn_list_reads q2 q1 c1 c2 hr ⟨.bl _,H,I,rfl,by simpa using q⟩
  |_=>cases h0
theorem U6(hu:X.A.units+100<cLine)(op:CmpOp):eY X (compareOp op) (r2 X.K (.cmp op)):=by
 intro pins s Z H x y v u Q I rx ry h;obtain⟨d,e,g,ρ,R,gH,re,d',g',⟨x',y',b,ex,h,rfl,rfl⟩,q⟩:=h;obtain⟨rfl,rfl⟩:=n5 ex;have fin:=q.now R (.bl b);have mT:∀{P:Int->Int->Bool},(∃i j,d=.int i/\e=.int j/\b=P i j)->∃i j,x=.int i/\y=.int j/\b=P i j:=λhh=>by
  obtain⟨i,j,z1,z2,z3⟩:=hh;exact⟨i,j,(z1▸gH).f7,(z2▸re).f7,z3⟩
 cases op
 ·exact CN hu I rx ry R gH re h false (by simpa using fin)
 ·exact CN hu I rx ry R gH re h true (by simpa using fin)
 ·obtain⟨i,j,e1,e2,e3⟩:=mT (P:=λi j=>decide (i<j)) h;exact Rz pins s Z H _ _ v u Q I rx ry ⟨i,j,e1,e2,by subst e3;exact fin⟩
 ·obtain⟨i,j,e1,e2,e3⟩:=mT (P:=λi j=>decide (i<=j)) h;exact Ry pins s Z H _ _ v u Q I rx ry ⟨i,j,e1,e2,by subst e3;exact fin⟩
 ·obtain⟨i,j,e1,e2,e3⟩:=mT (P:=λi j=>decide (j<i)) h;exact Rx pins s Z H _ _ v u Q I rx ry ⟨i,j,e1,e2,by subst e3;exact fin⟩
 ·obtain⟨i,j,e1,e2,e3⟩:=mT (P:=λi j=>decide (j<=i)) h;exact Rw pins s Z H _ _ v u Q I rx ry ⟨i,j,e1,e2,by subst e3;exact fin⟩
 ·obtain⟨rfl,rfl⟩:=(show _/\_ from h)
  obtain rfl:=re.vh;refine Kv pins s Z H _ _ v u Q I rx ry ⟨rfl,?_⟩;have e:Y3 d=decide (x=V.bc):=by cases gH<;>simp[Y3]
  rw[<- e];exact fin
 ·obtain⟨rfl,rfl⟩:=(show _/\_ from h)
  obtain rfl:=re.vh;refine Ng pins s Z H _ _ v u Q I rx ry ⟨rfl,?_⟩;have e:Y3 d=decide (x=V.bc):=by cases gH<;>simp[Y3]
  rw[<- e];exact fin
 ·rcases h with h|⟨a,S,n,i,rfl,ha,rfl,rfl⟩
  ·exact in_of hu I rx ry R gH re h false (by simpa using fin)
  ·obtain⟨a',rfl,ra⟩:=re.d8;obtain rfl:=gH.f7;exact Ur pins s Z H _ _ v u Q I rx ry ⟨i,a',S,n,rfl,rfl,R.set ha ra,fin⟩
 ·rcases h with h|⟨a,S,n,i,rfl,ha,rfl,hb⟩
  ·exact in_of hu I rx ry R gH re h true (by simpa using fin)
  ·obtain⟨a',rfl,ra⟩:=re.d8;obtain rfl:=gH.f7;exact SG pins s Z H _ _ v u Q I rx ry ⟨i,a',S,n,rfl,rfl,R.set ha ra,by rw[<- hb,qE];exact fin⟩
theorem empty_eq{K ρ H}(r:a4 K ρ H l vs):l.isEmpty=vs.isEmpty:=by cases r<;>rfl
theorem Mf{K:PySem.W.Frag}(R:Rl K ρ g H)(r:b6 K ρ H d x)(h:Cu g d b):Ai K x H b:=by
 rcases h with⟨rfl,rfl⟩|rfl|⟨i,rfl,rfl⟩|⟨l,rfl,rfl⟩|⟨a,l,rfl,hl,rfl⟩
 ·obtain rfl:=r.vh;rfl
 ·obtain rfl:=r.K7;rfl
 ·obtain rfl:=r.f7;rfl
 ·obtain⟨a,vs,rfl,ht,rs⟩:=r.v9;exact .inr (.inl ⟨_,ht.sq,by rw[empty_eq rs]⟩)
 ·obtain⟨a',rfl,ha⟩:=r.d8;obtain⟨vs,hq,rs⟩:=R.items hl ha;exact .inl ⟨_,hq,by rw[empty_eq rs]⟩
theorem Mt{K ρ H}{i:Int}(r:a4 K ρ H l vs)(h:iF l i=some d):∃v,iF vs i=some v/\b6 K ρ H d v:=by
 unfold iF at h ⊢;rw[<- r.length];cases e:ml l.length i with
 |none=>rw[e] at h;cases h
 |some j =>
  rw[e] at h;exact r.get h
theorem tK{K ρ H}{x:D}(R:Rl K ρ g H)(r:b6 K ρ H x v)(h:B0 g x=some l):∃a vs,v=.ref a/\a4 K ρ H l vs/\((∃i,x=.ref i/\ρ[i]?=some a)/\eT K H a vs\/x=.tup l/\TupAt K H a vs):=by
 cases r with
 |tup ht rs=>cases h;exact⟨_,_,rfl,rs,.inr ⟨rfl,ht⟩⟩
 |ref ha=>obtain⟨vs,hq,rs⟩:=R.items h ha;exact⟨_,_,rfl,rs,.inl ⟨⟨_,rfl,ha⟩,hq⟩⟩
 |_=>cases h
theorem Ra(hu:X.A.units+100<cLine):pG X (r2 X.K .ix):=by
 intro value slice pins s Z H x y v u Q I rx ry h hs;obtain⟨d,e,g,ρ,R,gH,re,d',g',⟨rfl,h⟩,q⟩:=h;rcases h with⟨x',l,i,ex,hl,ha⟩|⟨a,kvs,y',c,ex,ha,hc,hv⟩|⟨x',i,c,ex,h0,h1,rfl⟩
 ·obtain⟨rfl,rfl⟩:=n5 ex;obtain rfl:=re.f7;obtain⟨a,vs,rfl,rs,h⟩:=tK R gH hl;obtain⟨w,hw,eE⟩:=Mt rs ha;rcases h with⟨_,hq⟩|⟨_,ht⟩
  ·exact ML value slice pins s Z H _ _ v u Q I rx ry ⟨_,_,i,w,rfl,rfl,hq,hw,q.now R eE⟩ hs
  ·exact Kb value slice pins s Z H _ _ v u Q I rx ry ⟨_,_,i,w,rfl,rfl,ht.sq,hw,q.now R eE⟩ hs
 ·obtain⟨rfl,rfl⟩:=n5 ex;obtain⟨a',rfl,ra⟩:=gH.d8;obtain⟨vs,z,rs⟩:=R.bN ha ra;have:=L8 hc re;subst this;have q2:=rs.val c;rw[hv] at q2;obtain⟨w,hw,eE⟩:=q2.some;exact MK (by omega) value slice pins s Z H _ _ v u Q I rx ry ⟨_,w,rfl,by have:=U4.k (k:=c) z;rw[hw] at this;exact this,q.now R eE⟩ hs
 ·obtain⟨rfl,rfl⟩:=n5 ex;obtain rfl:=gH.A7;obtain rfl:=re.f7;exact Ka value slice pins s Z H _ _ v u Q I rx ry ⟨x',i,c,rfl,rfl,j6 h0,h1,q.now R (.str _)⟩ hs
def Hr(K:PySem.W.Frag):V->Option Int->Option Int->Hp->VK->Prop:=λx lo hi H Q=>∃d g ρ d' g',Rl K ρ g H/\b6 K ρ H d x/\qL d lo hi g d' g'/\LQ K ρ H Q d' g'
theorem zN:tV X (Hr X.K):=by
 intro pins s Z H x v vl vu lo hi sl Q I rx hs pl pu h;obtain⟨d,g,ρ,d',g',R,gH,h,q⟩:=h;rcases h with⟨l,rfl,rfl,rfl⟩|⟨a,l,rfl,hl,rfl,rfl⟩
 ·obtain⟨a,vs,rfl,ht,rs⟩:=gH.v9;refine Ob pins s Z H _ v vl vu lo hi sl Q I rx hs pl pu ⟨_,_,rfl,ht.sq,λz=>?_,λp hp=>q.tup R hp (rs.cut lo hi)⟩;refine q.now R (.tup ht ?_);have:=rs.cut lo hi;rw[z] at this;exact this
 ·obtain⟨a',rfl,ha⟩:=gH.d8;obtain⟨vs,hq,rs⟩:=R.items hl ha;exact Oa pins s Z H _ v vl vu lo hi sl Q I rx hs pl pu ⟨_,_,rfl,hq,λp hp=>q.new R hp (rs.cut lo hi)⟩
def Pz(K:PySem.W.Frag):V->V->V->Hp->(Hp->Prop)->Prop:=λo i v H Q=>∃yo di dv g ρ,Rl K ρ g H/\b6 K ρ H yo o/\b6 K ρ H di i/\b6 K ρ H dv v/\X2 yo di dv g (λg'=>∀bw H',Ext ρ H bw H'->Rl K bw g' H'->Q H')
theorem Ly(hu:X.A.units+100<cLine):Ag X (Pz X.K):=by
 intro pins s Z H o i v ov iv u Q I ro ri rv h;obtain⟨yo,di,dv,g,ρ,R,r1,r2,r3,g',h,q⟩:=h;rcases h with⟨a,i',l,j,rfl,rfl,hl,hj,rfl⟩|⟨a,kvs,c,rfl,ha,hc,hz,rfl⟩
 ·obtain⟨a',rfl,ha⟩:=r1.d8;obtain rfl:=r2.f7;obtain⟨vs,z,rs⟩:=R.lst hl ha;obtain⟨R',e'⟩:=R.write hl ha (rs.set r3 j);exact set_list pins s Z H _ _ _ ov iv u Q I ro ri rv ⟨_,vs,_,j,rfl,rfl,z,by rw[<- rs.length];exact hj,q ρ _ e' R'⟩
 ·obtain⟨a',rfl,ra⟩:=r1.d8;obtain⟨vs,z,rs⟩:=R.bN ha ra;have:=L8 hc r2;subst this;obtain⟨R',e'⟩:=R.put (o':=.bN (putD kvs c dv)) (u:=.dK (putK vs c v)) ha rfl ra (rs.put r3);cases ro;exact TK (by omega) I (vK.k z (by rw[<- rs.length];exact yS hz)) ri rv λs' I'=>⟨_,I',q ρ _ e' R'⟩
theorem Ki:j5 X (.builtin "len") (rN X.K .len):=by
 intro pins s Z H xs us Q I r h;obtain⟨ds,g,ρ,R,rs,d',g',⟨rfl,h⟩,q⟩:=h;rcases h with⟨x,l,rfl,hl,rfl⟩|⟨a,kvs,rfl,ha,rfl⟩|⟨x,rfl,hz,rfl⟩
 ·obtain⟨v,rfl,rv⟩:=rs.one;obtain⟨a,vs,rfl,rl,h⟩:=tK R rv hl;refine Wm pins s Z H _ us Q I r ⟨_,_,rfl,?_,by rw[<- rl.length];exact q.now R (.int _)⟩;exact h.imp (λz=>z.2) (λz=>z.2.sq)
 ·obtain⟨v,rfl,rv⟩:=rs.one;obtain⟨a',rfl,ra⟩:=rv.d8;obtain⟨vs,z,rk⟩:=R.bN ha ra;exact Tx pins s Z H _ us Q I r ⟨_,_,rfl,z,by rw[<- rk.length];exact q.now R (.int _)⟩
 ·obtain⟨v,rfl,rv⟩:=rs.one;obtain rfl:=rv.A7;exact Wn pins s Z H _ us Q I r ⟨_,rfl,j6 hz,q.now R (.int _)⟩
theorem za{K ρ H}:∀(ks:List Key),a4 K ρ H (ks.map kD) (ks.map kV)
 |[]=>.nil
 |.inl _::r=>.cons (.int _) (za r)
 |.inr _::r=>.cons (.str _) (za r)
theorem d6.keys{α:Type}{K ρ H}{ds:List (α×D)}{vs:List (α×V)}(h:d6 K ρ H ds vs):ds.map (·.1)=vs.map (·.1):=by
 induction h with
 |nil=>rfl
 |cons _ _ ih=>rw[ba,ba,ih]
theorem MQ(hc:X.calm=true):j5 X (.type "list") (rN X.K .list):=by
 intro pins s Z H xs us Q I r h;obtain⟨ds,g,ρ,R,rs,d',g',⟨x,l,rfl,hl,rfl,rfl⟩|⟨a,kvs,rfl,ha,hn,rfl,rfl⟩,q⟩:=h
 rotate_left
 ·obtain⟨v,rfl,rv⟩:=rs.one;obtain⟨a',rfl,ra⟩:=rv.d8;obtain⟨vs,z,rk⟩:=R.bN ha ra;exact Tc hc pins s Z H _ us Q I r ⟨_,vs,rfl,z,by rw[<- rk.length];exact hn,λp hp=>q (ρ++[p]) _ _ (t8 hp) (R.new hp (o:=.lst ((kvs.map (·.1)).map kD)) (u:=.lst ((vs.map (·.1)).map kV)) (by rw[rk.keys];exact za _)) (.ref (R.m9 p))⟩
 obtain⟨v,rfl,rv⟩:=rs.one;obtain⟨a,vs,rfl,rl,h⟩:=tK R rv hl;exact Wq pins s Z H _ us Q I r ⟨_,_,rfl,h.imp (λz=>z.2) (λz=>z.2.sq),λp hp=>q.new R hp rl⟩
theorem Yi:j5 X (.type "tuple") (rN X.K .tuple):=by
 intro pins s Z H xs us Q I r h;obtain⟨ds,g,ρ,R,rs,d',g',⟨x,l,rfl,hl,rfl,rfl⟩,q⟩:=h;obtain⟨v,rfl,rv⟩:=rs.one;obtain⟨a,vs,rfl,rl,h⟩:=tK R rv hl;refine SN pins s Z H _ us Q I r ⟨a,vs,rfl,?_⟩;exact h.imp (λz=>⟨z.2,λp hp=>q.tup R hp rl⟩) (λz=>⟨z.2.sq,q.now R (.tup z.2 rl)⟩)
theorem MJ:j5 X (.builtin "isinstance") (rN X.K .isin):=by
 intro pins s Z H xs us Q I r h;obtain⟨ds,g,ρ,R,rs,d',g',⟨x,c,b,rfl,hc,hb,rfl,rfl⟩,q⟩:=h;obtain⟨v,w,rfl,r1,r2⟩:=rs.two;obtain rfl:=r2.Sr;have fin:=q.now R (.bl b);have go:∀(t:Value) (v:V),gi X.K H v t->PySem.W.kitOne X.K t (.type c)=some b->Vals [v,V.ty c] us->wpAny (model X.prog X.w) X.A (call (.builtin "isinstance") us) (EP X pins Z Q) X.xe s :=
  λt v ht hk r=>VL pins s Z H _ us Q I r ⟨v,t,c,b,rfl,ht,hk,fin⟩
 simp only[List.mem_cons,List.mem_nil_iff,or_false] at hc;cases r1 with
 |bc=>refine go _ _ .bc ?_ r;cases hb;rcases hc with rfl|rfl|rfl|rfl|rfl<;>rfl
 |bl y=>refine go _ _ (.bl y) ?_ r;cases hb;rcases hc with rfl|rfl|rfl|rfl|rfl<;>rfl
 |int y=>refine go _ _ (.int y) ?_ r;cases hb;rcases hc with rfl|rfl|rfl|rfl|rfl<;>rfl
 |str y=>refine go _ _ (.str y) ?_ r;cases hb;rcases hc with rfl|rfl|rfl|rfl|rfl<;>rfl
 |ty _=>cases hb
 |tup ht rs =>
  cases hb;rcases ht with ht|ht
  ·refine go _ _ (.tup ht) ?_ r;rcases hc with rfl|rfl|rfl|rfl|rfl<;>rfl
  ·obtain⟨o,aL,n,lk,gN,_⟩:=ht;obtain⟨u,w',rfl,ru,eE⟩:=vals2 r;cases (show w'=Value.type c from eE);cases ru;have hk:PySem.W.kitOne X.K (.type "tuple") (.type c)=some (c=="tuple"):=by rcases hc with rfl|rfl|rfl|rfl|rfl<;>rfl
   exact bK GW I.fE ⟨o,I.fE _ _ lk,gN⟩ hk (λz=>nomatch z) λtk=>⟨.bl _,H,I.tok tk,rfl,fin⟩
 |@ref i a ha =>
  have IM:∃m,g'[i]?=some (.lst m)/\b=(c=="list"):=by
   simp only[pv] at hb;split at hb
   ·exact⟨_,by assumption,(aB hb).symm⟩
   ·cases hb
  obtain⟨m,e,rfl⟩:=IM;obtain⟨vs,z,_⟩:=R.lst e ha;refine go _ _ (.lst z) ?_ r;rcases hc with rfl|rfl|rfl|rfl|rfl<;>rfl
theorem UR:∀{l:List D} {b:Bool},T5 l=some b->∃bs:List Bool,l=bs.map D.bl/\b=bs.all id:=by
 intro l
 induction l with
 |nil=>intro b h;cases h;exact⟨[],rfl,rfl⟩
 |cons d r ih =>
  intro b h;cases d<;>first|(cases h;done)|skip
  rename_i c;simp only[T5] at h;cases e:T5 r with
  |none=>rw[e] at h;cases h
  |some b' =>
   rw[e] at h;cases h;obtain⟨bs,rfl,rfl⟩:=ih e;exact⟨c::bs,rfl,by simp⟩
theorem a4.MC{K ρ H}:∀{bs:List Bool} {vs:List V},a4 K ρ H (bs.map D.bl) vs->vs=bs.map V.bl:=by
 intro bs
 induction bs with
 |nil=>intro vs h;cases h;rfl
 |cons b r ih =>
  intro vs h;cases h with
  |cons h rr=>rw[ih rr,h.K7];rfl
theorem SA(hc:X.calm=true):j5 X (.builtin "all") (rN X.K .all):=by
 intro pins s Z H xs us Q I r h;obtain⟨ds,g,ρ,R,rs,d',g',⟨a,l,b,rfl,hl,hb,rfl,rfl⟩,q⟩:=h;obtain⟨v,rfl,rv⟩:=rs.one;obtain⟨a',rfl,ra⟩:=rv.d8;obtain⟨vs,hq,rs⟩:=R.items hl ra;rcases hb with hb|⟨ns,rfl,rfl⟩
 rotate_left
 ·have:=rs.ints;subst this;exact Tw hc pins s Z H _ us Q I r ⟨_,ns,rfl,hq,q.now R (.bl _)⟩
 obtain⟨bs,rfl,rfl⟩:=UR hb;have:=rs.MC;subst this;exact Tv hc pins s Z H _ us Q I r ⟨_,bs,rfl,hq,q.now R (.bl _)⟩
theorem yZ{K ρ H}:∀(ns:List Int),a4 K ρ H (ns.map D.int) (ns.map V.int)
 |[]=>.nil
 |_::r=>.cons (.int _) (yZ r)
theorem Yb(hc:X.calm=true):j5 X (.builtin "sorted") (rN X.K .eK):=by
 intro pins s Z H xs us Q I r h;obtain⟨ds,g,ρ,R,rs,d',g',⟨a,kvs,ns,rfl,ha,hk,hn,rfl,rfl⟩|⟨x,ns,rfl,hx,hn,rfl,rfl⟩,q⟩:=h
 rotate_left
 ·obtain⟨v,rfl,rv⟩:=rs.one;obtain⟨a,vs,rfl,rl,h⟩:=tK R rv hx;have:=rl.ints;subst this;exact Td pins s Z H _ us Q I r ⟨_,ns,rfl,h.imp (λz=>z.2) (λz=>z.2.sq),hn,λp hp=>q (ρ++[p]) _ _ (t8 hp) (R.new hp (o:=.lst ((J7 ns).map .int)) (u:=.lst ((J7 ns).map V.int)) (yZ _)) (.ref (R.m9 p))⟩
 obtain⟨v,rfl,rv⟩:=rs.one;obtain⟨a',rfl,ra⟩:=rv.d8;obtain⟨vs,z1,rk⟩:=R.bN ha ra;exact Tn hc pins s Z H _ us Q I r ⟨_,vs,ns,rfl,z1,rk.keys.symm.trans hk,hn,λp hp=>q (ρ++[p]) _ _ (t8 hp) (R.new hp (o:=.lst ((u9 ns).map .int)) (u:=.lst ((u9 ns).map V.int)) (yZ _)) (.ref (R.m9 p))⟩
theorem Ko(hc:X.calm=true):j5 X (.builtin "max") (rN X.K .max):=by
 intro pins s Z H xs us Q I r h;obtain⟨ds,g,ρ,R,rs,d',g',⟨rfl,⟨i,j,rfl,rfl⟩|⟨a,ns,M,rfl,hl,h1,h2,rfl⟩⟩,q⟩:=h
 rotate_left
 ·obtain⟨v,rfl,rv⟩:=rs.one;obtain⟨a',rfl,ra⟩:=rv.d8;obtain⟨vs,hq,rs⟩:=R.items hl ra;have:=rs.ints;subst this;exact TB hc pins s Z H _ us Q I r ⟨_,ns,M,rfl,hq,h1,h2,q.now R (.int _)⟩
 obtain⟨v,w,rfl,r1,r2⟩:=rs.two;obtain rfl:=r1.f7;obtain rfl:=r2.f7;exact Tz hc pins s Z H _ us Q I r ⟨i,j,rfl,q.now R (.int _)⟩
theorem LO(hc:X.calm=true):j5 X (.builtin "sum") (rN X.K .sum):=by
 intro pins s Z H xs us Q I r h;obtain⟨ds,g,ρ,R,rs,d',g',⟨a,ns,rfl,hl,rfl,rfl⟩,q⟩:=h;obtain⟨v,rfl,rv⟩:=rs.one;obtain⟨a',rfl,ra⟩:=rv.d8;obtain⟨vs,hq,rs⟩:=R.items hl ra;have:=rs.ints;subst this;exact TF hc pins s Z H _ us Q I r ⟨_,ns,rfl,hq,q.now R (.int _)⟩
theorem J':j5 X (.type "int") (rN X.K .int):=by
 intro pins s Z H xs us Q I r h;obtain⟨ds,g,ρ,R,rs,d',g',⟨rfl,h⟩,q⟩:=h;rcases h with⟨i,rfl,rfl⟩|⟨b,rfl,rfl⟩
 ·obtain⟨v,rfl,rv⟩:=rs.one;obtain rfl:=rv.f7;exact DN pins s Z H _ us Q I r (.inl ⟨i,rfl,q.now R (.int _)⟩)
 ·obtain⟨v,rfl,rv⟩:=rs.one;obtain rfl:=rv.K7;exact DN pins s Z H _ us Q I r (.inr ⟨b,rfl,q.now R (.int _)⟩)
def rM(K:PySem.W.Frag)(p:Pr):V->List V->Hp->VK->Prop:=λx xs H Q=>∃d ds g ρ,Rl K ρ g H/\b6 K ρ H d x/\a4 K ρ H ds xs/\cI p (d::ds) g (LQ K ρ H Q)
theorem M1{a b:D}{m:List D}(h:a::l=b::m):a=b/\l=m:=by cases h;exact⟨rfl,rfl⟩
theorem Ts:jR X "list.append" (rM X.K .append):=by
 intro pins s Z H x xs v us Q I rx r h;obtain⟨d,ds,g,ρ,R,rd,rs,d',g',⟨a,y,l,ex,ha,hz,rfl,rfl⟩,q⟩:=h;obtain⟨rfl,rfl⟩:=M1 ex;obtain⟨a',rfl,ra⟩:=rd.d8;obtain⟨w,rfl,eE⟩:=rs.one;obtain⟨vs,z1,rv⟩:=R.lst ha ra;obtain⟨R2,e2⟩:=R.write ha ra (rv.append (.cons eE .nil));exact Ul pins s Z H _ _ v us Q I rx r ⟨_,vs,_,rfl,rfl,z1,by rw[<- rv.length];exact yS hz,q ρ _ _ e2 R2 .bc⟩
theorem WI:jR X "list.clear" (rM X.K .clear):=by
 intro pins s Z H x xs v us Q I rx r h;obtain⟨d,ds,g,ρ,R,rd,rs,d',g',⟨a,l,ex,ha,rfl,rfl⟩,q⟩:=h;obtain⟨rfl,rfl⟩:=M1 ex;obtain⟨a',rfl,ra⟩:=rd.d8;cases rs;obtain⟨vs,z1,rv⟩:=R.lst ha ra;obtain⟨R2,e2⟩:=R.write ha ra (a4.nil);exact Xg pins s Z H _ _ v us Q I rx r ⟨_,vs,rfl,rfl,z1,q ρ _ _ e2 R2 .bc⟩
theorem Nw:jR X "list.pop" (rM X.K .oB):=by
 intro pins s Z H x xs v us Q I rx r h;obtain⟨d,ds,g,ρ,R,rd,rs,y,g',⟨a,l,ex,ha,rfl⟩,q⟩:=h;obtain⟨rfl,rfl⟩:=M1 ex;obtain⟨a',rfl,ra⟩:=rd.d8;cases rs;obtain⟨vs,z1,rv⟩:=R.lst ha ra;obtain⟨w,hw,eE⟩:=rv.get (i:=l.length) (d:=y) (by simp);have hl:vs.length=l.length+1:=by rw[<- rv.length];simp
 have rl:a4 X.K ρ H l vs.dropLast:=by
  have:=rv.erase l.length;rw[List.eraseIdx_append_of_length_le (aj _)] at this;rw[show vs.eraseIdx l.length=vs.dropLast by rw[List.eraseIdx_eq_dropLast];omega] at this;simpa using this
 obtain⟨R2,e2⟩:=R.write ha ra rl;exact Kp pins s Z H _ _ v us Q I rx r ⟨_,vs,w,rfl,rfl,z1,by rw[hl];exact hw,q ρ _ _ e2 R2 (eE.ext e2)⟩
theorem MP(hc:X.calm=true):j5 X (.type "set") (rN X.K .oE):=by
 intro pins s Z H xs us Q I r h;obtain⟨ds,g,ρ,R,rs,d',g',⟨a,ns,rfl,ha,hz,rfl,rfl⟩,q⟩:=h;obtain⟨v,rfl,rv⟩:=rs.one;obtain⟨a',rfl,ra⟩:=rv.d8;obtain⟨vs,z1,rk⟩:=R.items ha ra;obtain rfl:=rk.ints;refine SM hc pins s Z H _ us Q I r ⟨a',ns,rfl,z1,hz,λp hp=>?_⟩;exact q (ρ++[p]) _ _ (t8 hp) (R.new hp (o:=.set (λk=>decide (k∈ns)) (ST.f6 [] ns).length) (u:=.set (λk=>decide (k∈ns)) (ST.f6 [] ns).length) ⟨rfl,rfl⟩) (.ref (R.m9 p))
theorem XB:jR X "list.pop" (rM X.K .pop):=by
 intro pins s Z H x xs v us Q I rx r h;obtain⟨d,ds,g,ρ,R,rd,rs,y,g',⟨a,i,l,k,ex,ha,h1,h2,hk,hy,rfl⟩,q⟩:=h;obtain⟨rfl,rfl⟩:=M1 ex;obtain⟨a',rfl,ra⟩:=rd.d8;obtain⟨w,rfl,eE⟩:=rs.one;obtain rfl:=eE.f7;obtain⟨vs,z1,rv⟩:=R.lst ha ra;obtain⟨w,hw,eE⟩:=rv.get hy;obtain⟨R2,e2⟩:=R.write ha ra (rv.erase k);exact Xh pins s Z H _ _ v us Q I rx r ⟨_,vs,i,k,w,rfl,rfl,z1,h1,h2,by rw[<- rv.length];exact hk,hw,q ρ _ _ e2 R2 (eE.ext e2)⟩
theorem a4.strs{K ρ H}{ys:List Str}(h:a4 K ρ H (ys.map D.str) vs):vs=ys.map V.str:=by
 induction ys generalizing vs with
 |nil=>cases h;rfl
 |cons y ys ih =>
  cases h with
  |cons q r=>cases q;rw[ih r];rfl
theorem ty_list(R:Rl X.K ρ g H)(r:b6 X.K ρ H d v)(h:∃a l,d=.ref a/\b7 g a=some l):lZ X.K "list" v H:=by
 obtain⟨a,l,rfl,hl⟩:=h;obtain⟨a',rfl,ra⟩:=r.d8;obtain⟨vs,hq,_⟩:=R.items hl ra;exact .inl ⟨rfl,vs,hq⟩
theorem NJ:jR X "set.add" (rM X.K .kq):=by
 intro pins s Z H x xs v us Q I rx r h;obtain⟨d,ds,g,ρ,R,rd,rs,d',g',⟨a,i,S,n,ex,ha,hn,rfl,rfl⟩,q⟩:=h;obtain⟨rfl,rfl⟩:=M1 ex;obtain⟨a',rfl,ra⟩:=rd.d8;obtain⟨w,rfl,eE⟩:=rs.one;obtain rfl:=eE.f7;obtain⟨R2,e2⟩:=R.put (o':=.set (λk=>S k||decide (k=i)) (if S i then n else n+1)) (u:=.set (λk=>S k||decide (k=i)) (if S i then n else n+1)) ha rfl ra ⟨rfl,rfl⟩;exact Vn pins s Z H _ _ v us Q I rx r ⟨_,i,S,n,rfl,rfl,R.set ha ra,hn,q ρ _ _ e2 R2 .bc⟩
theorem ty_set(R:Rl X.K ρ g H)(r:b6 X.K ρ H d v)(h:mj .kq d g):lZ X.K "set" v H:=by
 obtain⟨a,S,n,rfl,hl⟩:=h;obtain⟨a',rfl,ra⟩:=r.d8;exact .inr (.inr (.inr ⟨rfl,S,n,R.set hl ra⟩))
theorem MA:jR X "dict.pop" (rM X.K .ic):=by
 intro pins s Z H x xs v us Q I rx r h;obtain⟨d,ds,g,ρ,R,rd,rs,d',g',⟨a,y,kvs,c,ex,ha,hc,hv,rfl⟩,q⟩:=h;obtain⟨rfl,rfl⟩:=M1 ex;obtain⟨a',rfl,ra⟩:=rd.d8;obtain⟨w1,rfl,r1⟩:=rs.one;obtain⟨vs,z1,rv⟩:=R.bN ha ra;have:=L8 hc r1;subst this;cases rx;have q2:=rv.val c;rw[hv] at q2;obtain⟨w,hw,q2⟩:=q2.some;obtain⟨R2,e2⟩:=R.put (o':=.bN (delD kvs c)) (u:=.dK (Y9 vs c)) ha rfl ra (rv.drop c);cases r with
 |cons r rr =>
 cases rr;exact QK I z1 r hw (.inl rfl) λw' s3 I3 eE=>⟨w,_,I3,eE,q ρ _ _ e2 R2 (q2.ext e2)⟩
theorem ty_dict(R:Rl X.K ρ g H)(r:b6 X.K ρ H d v)(h:mj .get d g):lZ X.K "dict" v H:=by
 obtain⟨a,l,rfl,hl⟩:=h;obtain⟨a',rfl,ra⟩:=r.d8;obtain⟨vs,hq,_⟩:=R.bN hl ra;exact .inr (.inr (.inl ⟨rfl,.inl ⟨vs,hq⟩⟩))
noncomputable abbrev gh:=List Str×XK
def LX(K:PySem.W.Frag)(ρ:List Addr)(H:Hp)(Ξ:gh):KX:=λx g'=>∀bw H' C,Ext ρ H bw H'->Rl K bw g' H'->x.cls∈Ξ.1->k9 K x.cls C->Ξ.2 (.ref C) none H'
theorem LX.ext{K:PySem.W.Frag}{bA:List Addr}{H1:Hp}{Ξ:gh}(e:Ext ρ H bA H1){x:Xn}(h:LX K ρ H Ξ x g):LX K bA H1 Ξ x g:=λbw H' C e' R hm c=>h bw H' C (e.trans e') R hm c
noncomputable abbrev mB(ex:List Str):gh:=(ex,λ_ _ _=>False)
def LE(K:PySem.W.Frag)(Ξ:gh)(t:S->G->KD->KX->Prop):TE:=λbE H Q=>∃Z g ρ,j8 K ρ H Z bE/\Rl K ρ g H/\t Z g (LQ K ρ H Q) (LX K ρ H Ξ)
def LT(K:PySem.W.Frag)(Ξ:gh)(t:S->G->(Bool->G->Prop)->KX->Prop):TT:=λbE H Q=>∃Z g ρ,j8 K ρ H Z bE/\Rl K ρ g H/\t Z g (λb g'=>∀bw H',Ext ρ H bw H'->Rl K bw g' H'->Q b H') (LX K ρ H Ξ)
def LA(K:PySem.W.Frag)(Ξ:gh)(t:S->G->(List D->G->Prop)->KX->Prop):TA:=λbE H Q=>∃Z g ρ,j8 K ρ H Z bE/\Rl K ρ g H/\t Z g (λds g'=>∀bw H' vs,Ext ρ H bw H'->Rl K bw g' H'->a4 K bw H' ds vs->Q vs H') (LX K ρ H Ξ)
def U3(K:PySem.W.Frag)(fu:List Addr)(H0:Hp)(k:IK)(J:It):Prop:=∀ρ g H,Ext fu H0 ρ H->Rl K ρ g H->∀i,(k.at i g=some none->J.stop i H) /\
 ∀d,k.at i g=some (some d)->J.go i H/\∀v H',J.mM i H v H'->Ext ρ H ρ H'/\Rl K ρ g H'/\b6 K ρ H' d v
def LI(K:PySem.W.Frag)(Ξ:gh)(t:S->G->(IK->G->Prop)->KX->Prop):TI:=λbE H R=>∃Z g ρ,j8 K ρ H Z bE/\Rl K ρ g H/\t Z g (λk g'=>∀bw H' J,Ext ρ H bw H'->Rl K bw g' H'->U3 K bw H' k J->R J H') (LX K ρ H Ξ)
def LG(K:PySem.W.Frag)(t:MT):TG:=λv bE H Q=>∃d Z g ρ,j8 K ρ H Z bE/\Rl K ρ g H/\b6 K ρ H d v/\jK t d Z (λbL=>∀cE,j8 K ρ H bL cE->Q cE H)
def LN(K:PySem.W.Frag)(ρ:List Addr)(H:Hp)(N:L2.Ends):Ends where
 nx:=λbL g'=>∀bw H' cE,Ext ρ H bw H'->Rl K bw g' H'->j8 K bw H' bL cE->N.nx cE H'
 rt:=LQ K ρ H N.rt
 bk:=λbL g'=>∀bw H' cE,Ext ρ H bw H'->Rl K bw g' H'->j8 K bw H' bL cE->N.bk cE H'
 ct:=λbL g'=>∀bw H' cE,Ext ρ H bw H'->Rl K bw g' H'->j8 K bw H' bL cE->N.ct cE H'
def LS(K:PySem.W.Frag)(Ξ:gh)(t:Ends->S->G->KX->Prop):TS:=λN bE H=>∃Z g ρ,j8 K ρ H Z bE/\Rl K ρ g H/\t (LN K ρ H N) Z g (LX K ρ H Ξ)
end M
namespace L2
open PySem PySem.Spec PyProof.Rows
variable{t t':TT}
section
variable{X:Cx}{e:Expr}
theorem PE.imp{t t':TE}(h:PE X e t)(i:∀Z H Q,t' Z H Q->t Z H Q):PE X e t':=λpins s Z H Q I q=>h pins s Z H Q I (i Z H Q q)
theorem PT.imp(h:PT X e t)(i:∀Z H Q,t' Z H Q->t Z H Q):PT X e t':=λpins s Z H Q I q=>h pins s Z H Q I (i Z H Q q)
theorem PW.imp(h:PW X e t)(i:∀Z H Q,t' Z H Q->t Z H Q):PW X e t':=λw pins s Z H Q I q=>h w pins s Z H Q I (i Z H Q q)
theorem PA.imp{es:List Expr}{t t':TA}(h:PA X es t)(i:∀Z H Q,t' Z H Q->t Z H Q):PA X es t':=λp pins s Z H Q I q=>h p pins s Z H Q I (i Z H Q q)
theorem jf.imp{es:List Expr}(h:jf X es t)(i:∀Z H Q,t' Z H Q->t Z H Q):jf X es t':=λpins s Z H Q I q=>h pins s Z H Q I (i Z H Q q)
theorem PI.imp{tg:Expr}{t t':TI}(h:PI X tg e t)(i:∀Z H Q,t' Z H Q->t Z H Q):PI X tg e t':=λpins s Z H Q I q=>h pins s Z H Q I (i Z H Q q)
theorem PG.imp{t t':TG}(h:PG X e t)(i:∀v Z H Q,t' v Z H Q->t v Z H Q):PG X e t':=λpins s Z H v u Q I r q=>h pins s Z H v u Q I r (i v Z H Q q)
theorem PS.imp{st:Stmt}{t t':TS}(h:PS X st t)(i:∀N Z H,t' N Z H->t N Z H):PS X st t':=λpins s Z H N I q=>h pins s Z H N I (i N Z H q)
theorem ij.imp{st:List Stmt}{t t':TS}(h:ij X st t)(i:∀N Z H,t' N Z H->t N Z H):ij X st t':=λpins s Z H N I q=>h pins s Z H N I (i N Z H q)
end
end L2
namespace M
open PySem L2 PySem.Spec PyProof.Rows
variable{Ξ:gh}{P:eB}{op gI:CmpOp}{rest es:List Expr}{fG mo:ME}{p2 q apos iR:Pos}{o:Expr}
section
variable{K:PySem.W.Frag}(hP:i6 P){ρ fu:List Addr}{H H0:Hp}{Z:S}{bE:L2.St}{g:G}{m:ME}
include hP
theorem eh{Q0:KD}{Q:VK}(s:j8 K ρ H Z bE)(R:Rl K ρ g H)(e0:Ext fu H0 ρ H)(h:aP P m Z g Q0 (LX K fu H0 Ξ))(k:∀x g1 bA H1 v1,Ext ρ H bA H1->Rl K bA g1 H1->b6 K bA H1 x v1->Q0 x g1->Q v1 H1):LE K Ξ (aP P m) bE H Q :=
 ⟨Z,g,ρ,s,R,a6 hP m _ _ _ _ _ _ (λx g1 h bA H1 v1 e1 R1 r1=>k x g1 bA H1 v1 e1 R1 r1 h) (λ_ _ z=>LX.ext e0 z) h⟩
theorem iD{Q0:List D->G->Prop}{Q:List V->Hp->Prop}(s:j8 K ρ H Z bE)(R:Rl K ρ g H)(e0:Ext fu H0 ρ H)(h:eN P m Z g Q0 (LX K fu H0 Ξ))(k:∀x g1 bA H1 v1,Ext ρ H bA H1->Rl K bA g1 H1->a4 K bA H1 x v1->Q0 x g1->Q v1 H1):LA K Ξ (eN P m) bE H Q :=
 ⟨Z,g,ρ,s,R,p6 hP m _ _ _ _ _ _ (λx g1 h bA H1 v1 e1 R1 r1=>k x g1 bA H1 v1 e1 R1 r1 h) (λ_ _ z=>LX.ext e0 z) h⟩
theorem nv{Q0:Bool->G->Prop}{Q:Bool->Hp->Prop}(s:j8 K ρ H Z bE)(R:Rl K ρ g H)(e0:Ext fu H0 ρ H)(h:dq P m Z g Q0 (LX K fu H0 Ξ))(k:∀t g1 bA H1,Ext ρ H bA H1->Rl K bA g1 H1->Q0 t g1->Q t H1):LT K Ξ (dq P m) bE H Q :=
 ⟨Z,g,ρ,s,R,m8 hP m _ _ _ _ _ _ (λt g1 h bA H1 e1 R1=>k t g1 bA H1 e1 R1 h) (λ_ _ z=>LX.ext e0 z) h⟩
theorem pN{ms:MS}{N:L2.Ends}{N0:Ends}(s:j8 K ρ H Z bE)(R:Rl K ρ g H)(e0:Ext fu H0 ρ H)(h:wpS P ms N0 Z g (LX K fu H0 Ξ))(k:N0.le (LN K ρ H N)):LS K Ξ (wpS P ms) N bE H :=
 ⟨Z,g,ρ,s,R,wpS_mono hP ms _ _ _ _ _ _ k (λ_ _ z=>LX.ext e0 z) h⟩
end
theorem a4.kO{K ρ H}(lo:Int)(n:Nat):a4 K ρ H (w6 lo n) ((List.range n).map λ(k:Nat)=>V.int (lo+k)):=by
 unfold w6;have:∀l:List Nat,a4 K ρ H (l.map λ(k:Nat)=>D.int (lo+k)) (l.map λ(k:Nat)=>V.int (lo+k)):=by
  intro l
  induction l with
  |nil=>exact .nil
  |cons x r ih=>exact .cons (.int _) ih
 exact this _
section
variable{X:Cx}(hP:i6 P){a b c e:Expr}{ma mb mc:ME}{pos:Pos}{p:Pr}
include hP
theorem yz(h:PE X e (nz (r2 X.K p) (LE X.K Ξ (aP P ma)) (LE X.K Ξ (aP P mb)))):PE X e (LE X.K Ξ (aP P (.prim p (.cons ma (.cons mb .nil))))) :=
 h.imp λbE H Q aS=>by
  obtain⟨Z,g,ρ,s,R,h⟩:=aS;exact eh hP s R (.refl _ _) h λx g1 bA H1 v1 e1 R1 r1 h=>eh hP (s.ext e1) R1 e1 h λy g2 dM H2 v2 e2 R2 r2 h =>
   ⟨x,y,g2,dM,R2,r1.ext e2,r2,l9 (λd g' h=>h.ext (e1.trans e2)) h⟩
theorem LL(h:PT X e (tD (nz (r2 X.K (.cmp op)) (LE X.K Ξ (aP P ma)) (LE X.K Ξ (aP P mb))))):PT X e (LT X.K Ξ (dq P (.dE (.prim (.cmp op) (.cons ma (.cons mb .nil)))))) :=
 h.imp λbE H Q aS=>by
  obtain⟨Z,g,ρ,s,R,h⟩:=aS;refine eh hP s R (.refl _ _) h λx g1 bA H1 v1 e1 R1 r1 h=>eh hP (s.ext e1) R1 e1 h λy g2 dM H2 v2 e2 R2 r2 h=>?_;obtain⟨d',g',h,q⟩:=h;obtain⟨x',y',t,ex,hc,rfl,rfl⟩:=id h;refine⟨x,y,g',dM,R2,r1.ext e2,r2,_,_,h,λbw H' v e' R' r'=>?_⟩;obtain⟨t',ht,q⟩:=q;rcases ht with⟨z,_⟩|z|⟨i,z,_⟩|⟨l,z,_⟩|⟨a,l,z,_⟩<;>cases z
  exact⟨_,r'.K7,q bw H' (e1.trans (e2.trans e')) R'⟩
theorem RY{op:UnaryOp}(ha:PE X a (LE X.K Ξ (aP P ma))):PE X (.UnaryOp op a pos) (LE X.K Ξ (aP P (.prim (.un op) (.cons ma .nil)))) :=
 (RI (RB op) ha).imp λbE H Q aS=>by
  obtain⟨Z,g,ρ,s,R,h⟩:=aS;exact eh hP s R (.refl _ _) h λx g1 bA H1 v1 e1 R1 r1 h=>⟨x,g1,bA,R1,r1,l9 (λd g' h=>h.ext e1) h⟩
theorem Gy:∀bE H Q,LE X.K Ξ (aP P (.chain op gI ma mb mc)) bE H Q->yA (r2 X.K (.cmp op)) (r2 X.K (.cmp gI)) (LE X.K Ξ (aP P ma)) (LE X.K Ξ (aP P mb)) (LE X.K Ξ (aP P mc)) bE H Q:=λbE H Q aS=>by
 obtain⟨Z,g,ρ,s,R,h⟩:=aS;refine eh hP s R (.refl _ _) h λx g1 bA H1 v1 e1 R1 r1 h=>eh hP (s.ext e1) R1 e1 h λy g2 dM H2 v2 e2 R2 r2 h=>?_;refine⟨x,y,g2,dM,R2,r1.ext e2,r2,l9 (λd g3 h hW H3 v3 e3 R3 r3=>?_) h⟩;obtain⟨t,rfl,h⟩:=h;obtain rfl:=r3.K7;refine⟨t,rfl,?_⟩;cases t
 ·exact h hW H3 _ (e1.trans (e2.trans e3)) R3 (.bl _)
 ·exact eh hP (s.ext (e1.trans (e2.trans e3))) R3 (e1.trans (e2.trans e3)) h λz g4 kj H4 v4 e4 R4 r4 h =>
   ⟨y,z,g4,kj,R4,r2.ext (e3.trans e4),r4,l9 (λd g' h=>h.ext (e1.trans (e2.trans (e3.trans e4)))) h⟩
theorem XN(hu:X.A.units+100<cLine)(ha:PE X a (LE X.K Ξ (aP P ma)))(hb:PE X b (LE X.K Ξ (aP P mb)))(hc:PE X c (LE X.K Ξ (aP P mc)))(hm:lastMarks [op,gI] [b,c]=false) :
  PE X (.Compare a [op,gI] [b,c] pos) (LE X.K Ξ (aP P (.chain op gI ma mb mc))):=(Xq (U6 hu op) (U6 hu gI) ha hb hc hm).imp (Gy hP)
theorem WH{Z:S}{g:G}{Q:Bool->G->Prop}{E:KX}(h:dq P (.dE (.chain op gI ma mb mc)) Z g Q E):aP P (.chain op gI ma mb mc) Z g (λd g'=>∃t,d=.bl t/\Q t g') E:=by
 have one:∀{o:CmpOp} {xs:List D} {g:G},cI (.cmp o) xs g (λd g1=>pE g1 d λb=>Q b g1)->cI (.cmp o) xs g λd g'=>∃t,d=.bl t/\Q t g':=by
  intro o xs g h;obtain⟨d',g',h,t',ht,q⟩:=h;obtain⟨x',y',t,ex,hc,rfl,rfl⟩:=id h;refine⟨_,_,h,t',?_,q⟩;rcases ht with⟨z,_⟩|z|⟨i,z,_⟩|⟨l,z,_⟩|⟨a,l,z,_⟩<;>first|exact z|cases z
 refine a6 hP ma _ _ _ _ _ _ (λx g1 h=>a6 hP mb _ _ _ _ _ _ (λy g2 h=>l9 (λz g3 h=>?_) h) (λ_ _ z=>z) h) (λ_ _ z=>z) h;obtain⟨t,rfl,h⟩:=h;refine⟨t,rfl,?_⟩;cases t
 ·obtain⟨b,hb,q⟩:=(show pE g3 (.bl false) λb=>Q b g3 from h)
  rcases hb with⟨z,_⟩|z|⟨i,z,_⟩|⟨l,z,_⟩|⟨a,l,z,_⟩<;>first|(cases z;exact⟨_,rfl,q⟩)|cases z
 ·exact a6 hP mc _ _ _ _ _ _ (λw g4 h=>one h) (λ_ _ z=>z) h
theorem Yc(hu:X.A.units+100<cLine)(ha:PE X a (LE X.K Ξ (aP P ma)))(hb:PE X b (LE X.K Ξ (aP P mb)))(hc:PE X c (LE X.K Ξ (aP P mc)))(hm:lastMarks [op,gI] [b,c]=false) :
  PT X (.Compare a [op,gI] [b,c] pos) (LT X.K Ξ (dq P (.dE (.chain op gI ma mb mc)))) :=
 (XG (U6 hu op) (U6 hu gI) ha hb hc hm).imp λbE H Q ⟨Z,g,ρ,s,R,h⟩ =>
  Gy hP bE H _ (eh hP s R (.refl _ _) (WH hP h) λx g1 bA H1 v1 e1 R1 r1 h=>by
   obtain⟨t,rfl,h⟩:=h;exact ⟨t,r1.K7,h bA H1 e1 R1⟩)
theorem Lo(ha:PE X a (LE X.K Ξ (aP P ma)))(hb:PE X (.BoolOp .And (b::rest) pos) (LE X.K Ξ (aP P mb))):PE X (.BoolOp .And (a::b::rest) pos) (LE X.K Ξ (aP P (.de ma mb))) :=
 (KH ha hb).imp λbE H Q aS=>by
  obtain⟨Z,g,ρ,s,R,h⟩:=aS;refine eh hP s R (.refl _ _) h λx g1 bA H1 v1 e1 R1 r1 h=>?_;obtain⟨t,rfl,h⟩:=h;refine⟨t,r1.K7,?_⟩;cases t
  ·exact h bA H1 _ e1 R1 (.bl _)
  ·exact eh hP (s.ext e1) R1 e1 h λy g2 dM H2 v2 e2 R2 r2 h=>h dM H2 v2 (e1.trans e2) R2 r2
theorem RX(ha:PE X a (LE X.K Ξ (aP P ma)))(hb:PE X (.BoolOp .Or (b::rest) pos) (LE X.K Ξ (aP P mb))):PE X (.BoolOp .Or (a::b::rest) pos) (LE X.K Ξ (aP P (.gp ma mb))) :=
 (RH ha hb).imp λbE H Q aS=>by
  obtain⟨Z,g,ρ,s,R,h⟩:=aS;refine eh hP s R (.refl _ _) h λx g1 bA H1 v1 e1 R1 r1 h=>?_;obtain⟨t,rfl,h⟩:=h;refine⟨t,r1.K7,?_⟩;cases t
  ·exact eh hP (s.ext e1) R1 e1 h λy g2 dM H2 v2 e2 R2 r2 h=>h dM H2 v2 (e1.trans e2) R2 r2
  ·exact h bA H1 _ e1 R1 (.bl _)
theorem Lv(ha:PE X a (LE X.K Ξ (aP P ma))):PE X (.UnaryOp .Not a pos) (LE X.K Ξ (aP P (.cG ma))) :=
 (KP ha).imp λbE H Q aS=>by
  obtain⟨Z,g,ρ,s,R,h⟩:=aS;refine eh hP s R (.refl _ _) h λx g1 bA H1 v1 e1 R1 r1 h=>?_;obtain⟨t,rfl,h⟩:=h;exact⟨t,r1.K7,h bA H1 _ e1 R1 (.bl _)⟩
theorem Lu(hc:PT X c (LT X.K Ξ (dq P mc)))(ha:PE X a (LE X.K Ξ (aP P ma)))(hb:PE X b (LE X.K Ξ (aP P mb))):PE X (.IfExp c a b pos) (LE X.K Ξ (aP P (.ite mc ma mb))) :=
 (Xt hc ha hb).imp λbE H Q aS=>by
  obtain⟨Z,g,ρ,s,R,h⟩:=aS;refine nv hP s R (.refl _ _) h λt g1 bA H1 e1 R1 h=>?_;cases t
  ·exact eh hP (s.ext e1) R1 e1 h λy g2 dM H2 v2 e2 R2 r2 h=>h dM H2 v2 (e1.trans e2) R2 r2
  ·exact eh hP (s.ext e1) R1 e1 h λy g2 dM H2 v2 e2 R2 r2 h=>h dM H2 v2 (e1.trans e2) R2 r2
theorem Lw{k:Nat}(h:PA X es (LA X.K Ξ (eN P fG))):PE X (.Tuple es k pos) (LE X.K Ξ (aP P (.prim .tup fG))) :=
 (KR h).imp λbE H Q aS=>by
  obtain⟨Z,g,ρ,s,R,h⟩:=aS;refine iD hP s R (.refl _ _) h λds g1 bA H1 vs e1 R1 r1 h=>?_;obtain⟨d',g',⟨hz,rfl,rfl⟩,q⟩:=h;exact⟨by rw[<- r1.length];exact j6 (aI hz (by decide)),λp hp=>(q.ext e1).tup R1 hp r1⟩
theorem FA(h:PA X es (LA X.K Ξ (eN P fG))):PE X (.List es pos) (LE X.K Ξ (aP P (.prim .lst fG))) :=
 (KN h).imp λbE H Q aS=>by
  obtain⟨Z,g,ρ,s,R,h⟩:=aS;refine iD hP s R (.refl _ _) h λds g1 bA H1 vs e1 R1 r1 h=>?_;obtain⟨d',g',⟨hz,rfl,rfl⟩,q⟩:=h;exact⟨by rw[<- r1.length];exact j6 (aI hz (by decide)),λp hp=>(q.ext e1).new R1 hp r1⟩
theorem F6:PA X [] (LA X.K Ξ (eN P .nil)) :=
 (U5 (X:=X)).imp λbE H Q aS=>by
  obtain⟨Z,g,ρ,s,R,h⟩:=aS;exact h ρ H [] (.refl _ _) R .nil
theorem u5(ha:PE X a (LE X.K Ξ (aP P ma)))(h:PA X es (LA X.K Ξ (eN P fG)))(hs:starEach (a::es) X.env=(false,eval a X.env)::starEach es X.env):PA X (a::es) (LA X.K Ξ (eN P (.cons ma fG))) :=
 (O7 ha h hs).imp λbE H Q aS=>by
  obtain⟨Z,g,ρ,s,R,h⟩:=aS;exact eh hP s R (.refl _ _) h λx g1 bA H1 v1 e1 R1 r1 h=>iD hP (s.ext e1) R1 e1 h λxs g2 dM H2 vs e2 R2 r2 h=>h dM H2 _ (e1.trans e2) R2 (.cons (r1.ext e2) r2)
theorem XX(ha:PE X a (LE X.K Ξ (aP P ma))):PE X (.Subscript a (.Slice none none none p2) pos) (LE X.K Ξ (aP P (.prim (.lx false false) (.cons ma .nil)))) :=
 (zf zN ha vF vF).imp λbE H Q aS=>by
  obtain⟨Z,g,ρ,s,R,h⟩:=aS;refine eh hP s R (.refl _ _) h λx g1 bA H1 v1 e1 R1 r1 h=>?_;obtain⟨d',g',⟨x',ex,h⟩,q⟩:=h;cases ex;exact⟨x,g1,bA,d',g',R1,r1,h,q.ext e1⟩
theorem XZ(ha:PE X a (LE X.K Ξ (aP P ma)))(hb:PE X b (LE X.K Ξ (aP P mb))):PE X (.Subscript a (.Slice (some b) none none p2) pos) (LE X.K Ξ (aP P (.prim (.lx true false) (.cons ma (.cons mb .nil))))) :=
 (zf zN ha (Gh hb) vF).imp λbE H Q aS=>by
  obtain⟨Z,g,ρ,s,R,h⟩:=aS;refine eh hP s R (.refl _ _) h λx g1 bA H1 v1 e1 R1 r1 h=>eh hP (s.ext e1) R1 e1 h λy g2 dM H2 v2 e2 R2 r2 h=>?_;obtain⟨d',g',⟨x',i,ex,h⟩,q⟩:=h;cases ex;exact⟨i,r2.f7,x,g2,dM,d',g',R2,r1.ext e2,h,q.ext (e1.trans e2)⟩
theorem XY(ha:PE X a (LE X.K Ξ (aP P ma)))(hb:PE X b (LE X.K Ξ (aP P mb))):PE X (.Subscript a (.Slice none (some b) none p2) pos) (LE X.K Ξ (aP P (.prim (.lx false true) (.cons ma (.cons mb .nil))))) :=
 (zf zN ha vF (Gh hb)).imp λbE H Q aS=>by
  obtain⟨Z,g,ρ,s,R,h⟩:=aS;refine eh hP s R (.refl _ _) h λx g1 bA H1 v1 e1 R1 r1 h=>eh hP (s.ext e1) R1 e1 h λy g2 dM H2 v2 e2 R2 r2 h=>?_;obtain⟨d',g',⟨x',i,ex,h⟩,q⟩:=h;cases ex;exact⟨i,r2.f7,x,g2,dM,d',g',R2,r1.ext e2,h,q.ext (e1.trans e2)⟩
theorem LM(ha:PE X a (LE X.K Ξ (aP P ma)))(he:∀whole,isTrue a X.env whole=(do let v <- whole;standAt a.pos;holding [v] (truthy v))):PT X a (LT X.K Ξ (dq P (.dE ma))) :=
 (XH ha he).imp λbE H Q aS=>by
  obtain⟨Z,g,ρ,s,R,h⟩:=aS;refine eh hP s R (.refl _ _) h λx g1 bA H1 v1 e1 R1 r1 h=>?_;obtain⟨b,h1,h2⟩:=h;exact⟨b,Mf R1 r1 h1,h2 bA H1 e1 R1⟩
theorem LK(ha:PT X a (LT X.K Ξ (dq P ma))):PT X (.UnaryOp .Not a pos) (LT X.K Ξ (dq P (.cG ma))) :=
 (Le ha).imp λbE H Q aS=>by
  obtain⟨Z,g,ρ,s,R,h⟩:=aS;exact nv hP s R (.refl _ _) h λt g1 bA H1 e1 R1 h=>h bA H1 e1 R1
theorem LP(ha:PT X a (LT X.K Ξ (dq P ma)))(hb:PW X (.BoolOp .And (b::rest) pos) (LT X.K Ξ (dq P mb))):PW X (.BoolOp .And (a::b::rest) pos) (LT X.K Ξ (dq P (.de ma mb))) :=
 (Lf ha hb).imp λbE H Q aS=>by
  obtain⟨Z,g,ρ,s,R,h⟩:=aS;refine nv hP s R (.refl _ _) h λt g1 bA H1 e1 R1 h=>?_;cases t
  ·exact h bA H1 e1 R1
  ·exact nv hP (s.ext e1) R1 e1 h λt g2 dM H2 e2 R2 h=>h dM H2 (e1.trans e2) R2
theorem Sa(ha:PT X a (LT X.K Ξ (dq P ma)))(hb:PW X (.BoolOp .Or (b::rest) pos) (LT X.K Ξ (dq P mb))):PW X (.BoolOp .Or (a::b::rest) pos) (LT X.K Ξ (dq P (.gp ma mb))) :=
 (RL ha hb).imp λbE H Q aS=>by
  obtain⟨Z,g,ρ,s,R,h⟩:=aS;refine nv hP s R (.refl _ _) h λt g1 bA H1 e1 R1 h=>?_;cases t
  ·exact nv hP (s.ext e1) R1 e1 h λt g2 dM H2 e2 R2 h=>h dM H2 (e1.trans e2) R2
  ·exact h bA H1 e1 R1
theorem Od:jf X [] (LT X.K Ξ (dq P .no)) :=
 (NC (X:=X)).imp λbE H Q aS=>by
  obtain⟨Z,g,ρ,s,R,h⟩:=aS;exact h ρ H (.refl _ _) R
theorem Lp{x:Str}{v:Value}(hv:(∃id,v=.builtin id)\/∃T,v=.type T)(hc:j5 X v (rN X.K p))(hg:Gl X x)(hm:X.mg x=none)(hb:bootBuiltins x=some v)(ha:PA X (e::es) (LA X.K Ξ (eN P fG)))(hn:x≠"__name__")(hd:(x==("__debug__":Str))=false)(ei:starEach (e::es) X.env=(false,eval e X.env)::starEach es X.env)(fO:(backTo pos (starEach es X.env)).any (·.1)=false):PE X (.Call (.Name x q) (e::es) [] pos) (LE X.K Ξ (aP P (.prim p fG))):=by
 have base:PE X (.Call (.Name x q) (e::es) [] pos) (wq (rN X.K p) (LA X.K Ξ (eN P fG))):=by
  rcases hv with⟨id,rfl⟩|⟨T,rfl⟩
  ·exact X6 hc hg hm hb ha hn hd ei fO
  ·exact M7 hc hg hm hb ha hn hd ei fO
 refine base.imp λbE H Q aS=>?_;obtain⟨Z,g,ρ,s,R,h⟩:=aS;exact iD hP s R (.refl _ _) h λxs g1 bA H1 vs e1 R1 r1 h=>⟨xs,g1,bA,R1,r1,l9 (λd g' h=>h.ext e1) h⟩
theorem Gq{T:String}{name:Str}{id:String}(pa:PlainAttrs T)(slot:Slot T name id)(oH:typeOf (.builtin id)=pure (.type "method_descriptor"))(hm:jR X id (rM X.K p))(hk:∀{d:D} {v:V} {g:G} {ρ:List Addr} {H:Hp},Rl X.K ρ g H->b6 X.K ρ H d v->mj p d g->lZ X.K T v H)(ho:PE X o (LE X.K Ξ (aP P mo)))(ha:PA X (e::es) (LA X.K Ξ (eN P fG)))(eX:attributeBase o name X.env (eval o X.env)=eval o X.env)(jP:((backTo pos (starEach (e::es) X.env)).all (λx=>!x.1)&&(backToKw pos (keywordEach [] X.env)).all (λx=>x.1.isSome)&&decide ((e::es).length+([]:List Keyword).length+(if([]:List Keyword).isEmpty then 0 else 1)<30))=true)(eW:(apos.endLine==pos.line)=true)(hs:starEach (e::es) X.env=(false,eval e X.env)::starEach es X.env)(dR:(backTo pos (starEach es X.env)).any (·.1)=false) :
  PE X (.Call (.Attribute o name apos) (e::es) [] pos) (LE X.K Ξ (aP P (.dQ p mo fG))) :=
 (RD pa slot oH hm ho ha eX jP eW hs dR).imp λbE H Q aS=>by
  obtain⟨Z,g,ρ,s,R,h⟩:=aS;exact eh hP s R (.refl _ _) h λx g1 bA H1 v1 e1 R1 r1 h=>⟨hk R1 r1 h.1,iD hP (s.ext e1) R1 e1 h.2 λxs g2 dM H2 ws e2 R2 r2 h =>
   ⟨x,xs,g2,dM,R2,r1.ext e2,r2,l9 (λd g' h=>h.ext (e1.trans e2)) h⟩⟩
theorem XT{T:String}{name:Str}{id:String}(pa:PlainAttrs T)(slot:Slot T name id)(oH:typeOf (.builtin id)=pure (.type "method_descriptor"))(hm:jR X id (rM X.K p))(hk:∀{d:D} {v:V} {g:G} {ρ:List Addr} {H:Hp},Rl X.K ρ g H->b6 X.K ρ H d v->mj p d g->lZ X.K T v H)(ho:PE X o (LE X.K Ξ (aP P mo)))(eX:attributeBase o name X.env (eval o X.env)=eval o X.env)(eW:(apos.endLine==pos.line)=true) :
  PE X (.Call (.Attribute o name apos) [] [] pos) (LE X.K Ξ (aP P (.dQ p mo .nil))) :=
 (KI pa slot oH hm ho eX eW).imp λbE H Q aS=>by
  obtain⟨Z,g,ρ,s,R,h⟩:=aS;exact eh hP s R (.refl _ _) h λx g1 bA H1 v1 e1 R1 r1 h=>⟨hk R1 r1 h.1,x,[],g1,bA,R1,r1,.nil,l9 (λd g' h=>h.ext e1) h.2⟩
omit hP in
theorem GC{K ρ H}{d:D}{v:V}(r:b6 K ρ H d v)(h:uT d=true):v=toV d/\C9 v=true:=by
 cases r with
 |bc=>exact⟨rfl,rfl⟩
 |bl _=>exact⟨rfl,rfl⟩
 |int _=>exact⟨rfl,rfl⟩
 |str _=>exact⟨rfl,rfl⟩
 |ty _=>exact absurd h bu
 |ref _=>exact absurd h bu
 |tup _ _=>exact absurd h bu
omit hP in
theorem TM{K ρ H}{l:List D}{vs:List V}(r:a4 K ρ H l vs)(h:l.all uT=true):vs=l.map toV/\vs.all C9=true:=by
 induction l generalizing vs with
 |nil=>cases r;exact⟨rfl,rfl⟩
 |cons d l ih =>
  cases r with
  |cons rd rs =>
   rw[gf,aZ] at h;obtain⟨e1,f1⟩:=GC rd h.1;obtain⟨e2,f2⟩:=ih rs h.2;subst e1 e2;exact⟨rfl,by rw[gf,f1,f2];rfl⟩
omit hP in
theorem DQ{K ρ H}{l:List D}{vs:List V}{y:D}{w:V}{n:Nat}(r:a4 K ρ H l vs)(ry:b6 K ρ H y w)(h:Fg l y n):vn vs w n:=by
 obtain⟨h1,h2,⟨z,h3,h4⟩,h5⟩:=h;obtain⟨e1,f1⟩:=TM r h1;obtain⟨e2,f2⟩:=GC ry h2;subst e1 e2;refine⟨f1,f2,⟨toV z,by rw[aF,h3];rfl,h4⟩,λm z' hm hz=>?_⟩;rw[aF,ae] at hz;obtain⟨Hc,hz,rfl⟩:=hz;exact h5 m Hc hm hz
theorem XO(ho:PE X o (LE X.K Ξ (aP P mo)))(ha:PA X (e::es) (LA X.K Ξ (eN P fG)))(eX:attributeBase o "index" X.env (eval o X.env)=eval o X.env)(jP:((backTo pos (starEach (e::es) X.env)).all (λx=>!x.1)&&(backToKw pos (keywordEach [] X.env)).all (λx=>x.1.isSome)&&decide ((e::es).length+([]:List Keyword).length+(if([]:List Keyword).isEmpty then 0 else 1)<30))=true)(eW:(apos.endLine==pos.line)=true)(hs:starEach (e::es) X.env=(false,eval e X.env)::starEach es X.env)(dR:(backTo pos (starEach es X.env)).any (·.1)=false) :
  PE X (.Call (.Attribute o "index" apos) (e::es) [] pos) (LE X.K Ξ (aP P (.dQ .index mo fG))) :=
 (Xu ho ha eX jP eW hs dR).imp λbE H Q aS=>by
  obtain⟨Z,g,ρ,s,R,h⟩:=aS;refine eh hP s R (.refl _ _) h λx g1 bA H1 v1 e1 R1 r1 h=>?_;obtain⟨hk,h⟩:=h;rcases hk with⟨l,rfl⟩|⟨a,l,rfl,hl⟩
  ·obtain⟨a',vs,rfl,ta,rs⟩:=r1.v9;refine .inr ⟨a',vs,rfl,ta.d,iD hP (s.ext e1) R1 e1 h λxs g2 dM H2 ws e2 R2 r2 h=>?_⟩;obtain⟨d',g',⟨x,y,l',n,ex,hi,W,hz,rfl,rfl⟩,q⟩:=h;cases ex;cases hi;obtain⟨w,rfl,eE⟩:=r2.one;exact⟨a',vs,w,n,rfl,rfl,(ta.ext e2).sq,DQ (rs.ext e2) eE W,(q.ext (e1.trans e2)).now R2 (.int n)⟩
  ·obtain⟨a',rfl,ra⟩:=r1.d8;obtain⟨vs,hq,_⟩:=R1.items hl ra;refine .inl ⟨a',vs,rfl,hq,iD hP (s.ext e1) R1 e1 h λxs g2 dM H2 ws e2 R2 r2 h=>?_⟩;obtain⟨d',g',⟨x,y,l',n,ex,hi,W,hz,rfl,rfl⟩,q⟩:=h;cases ex;obtain⟨w,rfl,eE⟩:=r2.one;obtain⟨nu,Ih,ly⟩:=R2.items (show b7 _ a=some l' from hi) (e2.get ra);have hn:n<2 ^ 62:=by
    obtain⟨_,_,⟨z,Bk,_⟩,_⟩:=W;have:=(ax.mp Bk).1;omega
   exact⟨a',nu,w,n,rfl,rfl,Ih,DQ ly eE W,hn,(q.ext (e1.trans e2)).now R2 (.int n)⟩
theorem XQ(hc:X.calm=true)(ha:PE X a (LE X.K Ξ (aP P ma)))(lL:Gl X "list")(mX:X.mg "list"=none)(hg:Gl X "range")(hm:X.mg "range"=none)(hs:starEach [a] X.env=[(false,eval a X.env)]) :
  PE X (.Call (.Name "list" p2) [.Call (.Name "range" q) [a] [] pos] [] iR) (LE X.K Ξ (aP P (.prim .lD (.cons ma .nil)))) :=
 (M7 (Ff hc) lL mX (by first|exact eG|decide +kernel) (O7 (Uw hg hm (u5 hP ha (F6 hP) (by rw[hs];rfl)) hs) U5)).imp λbE H Q aS=>by
  obtain⟨Z,g,ρ,s,R,h⟩:=aS;refine iD hP s R (.refl _ _) h λxs g1 bA H1 vs e1 R1 r1 h=>?_;obtain⟨d',g',⟨j,rfl,h1,h2,rfl,rfl⟩,q⟩:=h;obtain⟨v,rfl,rv⟩:=r1.one;obtain rfl:=rv.f7;refine⟨j,rfl,λq' hq=>⟨q',0,j,rfl,f9,⟨by omega,by omega,h1,by omega,by omega⟩,λp hp=>?_⟩⟩;rw[show(j-0).toNat=j.toNat by omega];exact(q.ext (e1.trans (o8 hq))).new (R1.grow hq) hp (a4.kO 0 _)
theorem XR(hc:X.calm=true)(ha:PE X a (LE X.K Ξ (aP P ma)))(hb:PE X b (LE X.K Ξ (aP P mb)))(lL:Gl X "list")(mX:X.mg "list"=none)(hg:Gl X "range")(hm:X.mg "range"=none)(hs:starEach [a,b] X.env=[(false,eval a X.env),(false,eval b X.env)])(gC:starEach [b] X.env=[(false,eval b X.env)]) :
  PE X (.Call (.Name "list" p2) [.Call (.Name "range" q) [a,b] [] pos] [] iR) (LE X.K Ξ (aP P (.prim .lC (.cons ma (.cons mb .nil))))) :=
 (M7 (Ff hc) lL mX (by first|exact eG|decide +kernel) (O7 (Ux hg hm (u5 hP ha (u5 hP hb (F6 hP) (by rw[gC];rfl)) (by rw[hs,gC])) hs gC) U5)).imp λbE H Q aS=>by
  obtain⟨Z,g,ρ,s,R,h⟩:=aS;refine iD hP s R (.refl _ _) h λxs g1 bA H1 vs e1 R1 r1 h=>?_;obtain⟨d',g',⟨i,j,rfl,hb,rfl,rfl⟩,q⟩:=h;obtain⟨v,w,rfl,rv,eE⟩:=r1.two;obtain rfl:=rv.f7;obtain rfl:=eE.f7;exact⟨i,j,rfl,λq' hq=>⟨q',i,j,rfl,f9,hb,λp hp=>(q.ext (e1.trans (o8 hq))).new (R1.grow hq) hp (a4.kO i _)⟩⟩
theorem NS(hc:X.calm=true)(ha:PE X a (LE X.K Ξ (aP P ma)))(lL:Gl X "sorted")(mX:X.mg "sorted"=none)(hg:Gl X "set")(hm:X.mg "set"=none)(hs:starEach [a] X.env=[(false,eval a X.env)]) :
  PE X (.Call (.Name "sorted" p2) [.Call (.Name "set" q) [a] [] pos] [] iR) (LE X.K Ξ (aP P (.prim .sset (.cons ma .nil)))) :=
 (X6 (T4 hc) lL mX (by first|exact gc|decide +kernel) (O7 (M7 (Fb hc) hg hm (by first|exact gX|decide +kernel) (u5 hP ha (F6 hP) (by rw[hs];rfl)) (by decide) (by decide) (by rw[hs];rfl) rfl) U5)).imp λbE H Q aS=>by
  obtain⟨Z,g,ρ,s,R,h⟩:=aS;refine iD hP s R (.refl _ _) h λxs g1 bA H1 vs e1 R1 r1 h=>?_;obtain⟨d',g',⟨i,ns,rfl,hl,hz,rfl,rfl⟩,q⟩:=h;obtain⟨v,rfl,rv⟩:=r1.one;obtain⟨a',rfl,ra⟩:=rv.d8;obtain⟨ws,hq,rs⟩:=R1.items hl ra;obtain rfl:=rs.ints;refine⟨_,ns,rfl,hq,hz,λq' lJ=>⟨q',ns,rfl,f9,hz,λp hp=>?_⟩⟩;exact(q.ext (e1.trans (o8 lJ))).new (R1.grow lJ) hp (a4.ofInts _)
theorem NP(hc:X.calm=true)(ha:PE X a (LE X.K Ξ (aP P ma)))(lL:Gl X "len")(mX:X.mg "len"=none)(hg:Gl X "set")(hm:X.mg "set"=none)(hs:starEach [a] X.env=[(false,eval a X.env)]) :
  PE X (.Call (.Name "len" p2) [.Call (.Name "set" q) [a] [] pos] [] iR) (LE X.K Ξ (aP P (.prim .U0 (.cons ma .nil)))) :=
 (X6 SK lL mX PySem.boot_len (O7 (M7 (Fb hc) hg hm (by first|exact gX|decide +kernel) (u5 hP ha (F6 hP) (by rw[hs];rfl)) (by decide) (by decide) (by rw[hs];rfl) rfl) U5)).imp λbE H Q aS=>by
  obtain⟨Z,g,ρ,s,R,h⟩:=aS;refine iD hP s R (.refl _ _) h λxs g1 bA H1 vs e1 R1 r1 h=>?_;obtain⟨d',g',⟨i,ns,rfl,hl,hz,rfl,rfl⟩,q⟩:=h;obtain⟨v,rfl,rv⟩:=r1.one;obtain⟨a',rfl,ra⟩:=rv.d8;obtain⟨ws,hq,rs⟩:=R1.items hl ra;obtain rfl:=rs.ints;refine⟨_,ns,rfl,hq,by omega,λq' lJ=>⟨q',_,rfl,f9,?_⟩⟩;exact(q.ext (e1.trans (o8 lJ))).now (R1.grow lJ) (.int _)
theorem NR{i:Int}{j:Nat}(lO:PySem.W.kdsCode X.K X.env.code=true):PE X (.Set [.Constant (.int i) j q] 0 pos) (LE X.K Ξ (aP P (.prim (.jW i) .nil))) :=
 (Nt lO).imp λbE H Q aS=>by
  obtain⟨Z,g,ρ,s,R,h⟩:=aS;obtain⟨d',g',⟨_,rfl,rfl⟩,q⟩:=h;exact λp hp=>q (ρ++[p]) _ _ (t8 hp) (R.new hp (o:=.set (λk=>decide (k=i)) 1) (u:=.set (λk=>decide (k=i)) 1) ⟨rfl,rfl⟩) (.ref (R.m9 p))
theorem Lr{f:Str}(ha:PE X a (LE X.K Ξ (aP P ma)))(hb:attributeBase a f X.env (eval a X.env)=eval a X.env):PE X (.Attribute a f pos) (LE X.K Ξ (aP P (.prim (.fld f) (.cons ma .nil)))) :=
 (KJ ha hb).imp λbE H Q aS=>by
  obtain⟨Z,g,ρ,s,R,h⟩:=aS;refine eh hP s R (.refl _ _) h λx g1 bA H1 v1 e1 R1 r1 h=>?_;obtain⟨d',g',⟨i,c,fs,ex,hi,hf,rfl⟩,q⟩:=h;cases ex;obtain⟨a',rfl,ra⟩:=r1.d8;obtain⟨C,dx,vs,hH,_,hC,rk,na⟩:=R1.ins hi ra;have lk:=rk.look f;rw[hf] at lk;obtain⟨v,hv,rv⟩:=lk.some;exact⟨a',C,dx,vs,v,rfl,hH,hC,na _ (aH hf),hv,q bA H1 v e1 R1 rv⟩
end
section
variable{X:Cx}{pos:Pos}
theorem Lx{i:Nat}{x:Str}(hN:X.N[i]?=some x)(hv:tT X.env.scope x)(hd:(x==("__debug__":Str))=false)(kC:(x==("__classdict__":Str))=false):PE X (.Name x pos) (LE X.K Ξ (aP P (.var i))) :=
 (Fv hN hv hd kC).imp λbE H Q aS=>by
  obtain⟨Z,g,ρ,s,R,h⟩:=aS;obtain⟨d,e,h⟩:=h;obtain⟨v,h1,h2⟩:=s.val _ _ e;exact⟨v,h1,h.now R h2⟩
theorem P5{e:Expr}{d:D}{v:V}(h:PE X e (tC v))(r:∀ρ H,b6 X.K ρ H d v):PE X e (LE X.K Ξ (aP P (.lit d))) :=
 h.imp λbE H Q aS=>by
  obtain⟨Z,g,ρ,s,R,h⟩:=aS;exact LQ.now h R (r ρ H)
theorem NM:PE X (.Dict [] [] pos) (LE X.K Ξ (aP P (.prim .N7 .nil))) :=
 (Xs (X:=X)).imp λbE H Q ⟨Z,g,ρ,s,R,h⟩ p hp=>by
  obtain⟨d',g',⟨_,rfl,rfl⟩,q⟩:=h;exact q (ρ++[p]) _ _ (t8 hp) (R.new hp (o:=.bN []) (u:=.dK []) d6.nil) (.ref (R.m9 p))
end
end M
namespace L2
open PySem PySem.Spec PyProof.Rows
section
variable{X:Cx}{m:Str}{pos apos:Pos}{e o:Expr}{es:List Expr}{ta:TE}{t:TA}
def Ma(X:Cx)(m:Str)(E:XK)(ta:TE)(t:TA):TE:=λZ H Q=>ta Z H λx H1=>∃a C dx fs f fd ps k sp,x=.ref a/\H1 a=some (.ins C dx fs)/\fs.lookup m=none/\ik X.K C/\Meth X.K C m f /\
 fV X.prog X.w X.K X.mg X.base (gj X.prog X.w) k f fd ps sp/\m6 k X.A/\Binds X.K fd ps []/\t Z H1 λvs H2=>sp (x::(vs++[])) H2 Q E
theorem Xw{pl:Sem Bool}{E:XK}(he:PE X o ta)(hx:Passes (gj X.prog X.w) X E)(ha:PA X (e::es) t)(ei:starEach (e::es) X.env=(false,eval e X.env)::starEach es X.env)(fO:(backTo pos (starEach es X.env)).any (·.1)=false)(ht:eval (.Call (.Attribute o m apos) (e :: es) [] pos) X.env=(do
   let ov <- eval o X.env
   standAt apos.atName
   let (f,first) <- holding [ov] (getMethod ov m pl)
   callWith pos f first (backTo pos (starEach (e :: es) X.env)) (backToKw pos (keywordEach [] X.env)))) :
  PE X (.Call (.Attribute o m apos) (e::es) [] pos) (Ma X m E ta t):=by
 intro pins s Z H Q I h;refine ue (pl:=pl) (bS (he pins s Z H _ I h) λu s1 aS=>?_) ht;obtain⟨x,H1,I1,rx,a,C,dx,fs,f,fd,ps,k,sp,ex,ea,l,c,hm,F,hr,hb,q⟩:=aS;subst ex;obtain rfl:u=Value.ref a:=rx;refine Ew I1 ea c hm l ?_;refine jh (first:=[.ref a]) (h₀:=X.base) I.ok.mod.lF hm.kp (bS (ha pos pins s1 Z H1 _ I1 q) λus s2 ⟨vs,H2,I2,r,q2⟩=>⟨I2.fE,?_⟩) ei fO;exact vi (us:=.ref a::us) (vs:=.ref a::vs) F hr hb .nil hx I2 (.cons rfl r) q2
def Oi(X:Cx)(m:Str)(E:XK)(ta:TE):TE:=λZ H Q=>ta Z H λx H1=>∃a C dx fs f fd ps k sp,x=.ref a/\H1 a=some (.ins C dx fs)/\fs.lookup m=none/\ik X.K C/\Meth X.K C m f /\
 fV X.prog X.w X.K X.mg X.base (gj X.prog X.w) k f fd ps sp/\m6 k X.A/\Binds X.K fd ps []/\sp [x] H1 Q E
theorem Uv{pl:Sem Bool}{E:XK}(he:PE X o ta)(hx:Passes (gj X.prog X.w) X E)(ht:eval (.Call (.Attribute o m apos) [] [] pos) X.env=(do
   let ov <- eval o X.env
   standAt apos.atName
   let (f,first) <- holding [ov] (getMethod ov m pl)
   callWith pos f first (backTo pos (starEach [] X.env)) (backToKw pos (keywordEach [] X.env)))) :
  PE X (.Call (.Attribute o m apos) [] [] pos) (Oi X m E ta):=by
 intro pins s Z H Q I h;refine ue (pl:=pl) (bS (he pins s Z H _ I h) λu s1 aS=>?_) ht;obtain⟨x,H1,I1,rx,a,C,dx,fs,f,fd,ps,k,sp,ex,ea,l,c,hm,F,hr,hb,q⟩:=aS;subst ex;obtain rfl:u=Value.ref a:=rx;refine Ew I1 ea c hm l ?_;exact iJ (first:=[.ref a]) I1.fE hm.kp (vi (us:=[.ref a]) (vs:=[.ref a]) (dvs:=[]) F hr hb .nil hx I1 (.cons rfl .nil) q)
end
end L2
namespace M
open PySem L2 PySem.Spec PyProof.Rows
variable{K:PySem.W.Frag}{H H0:Hp}{neg:Bool}{a fa C:Addr}{x:Str}{p:Pos}{kvs xs:List D}{k f j:Nat}{fd:FuncData}{ps:List Str}{fu:List Addr}{vs:List V}{es:List Expr}{e:Expr}{fG:ME}
inductive nU(K:PySem.W.Frag):List D->List (Str×V)->Prop
 |nil:nU K [] []
 |cons {x:Str} {d:D} {v:V} {ds:List D} {vs:List (Str×V)} (h:∀ρ H,b6 K ρ H d v) (r:nU K ds vs):nU K (.tup [.str x,d]::ds) ((x,v)::vs)
theorem nU.look{ρ:List Addr}{ds vs}(x:Str)(h:nU K ds vs):Z6 K ρ H (sY ds x) (vs.lookup x):=by
 induction h with
 |nil=>trivial
 |cons h r ih =>
  rename_i y d v ds vs;unfold sY;rw[cc];by_cases e:x=y
  ·rw[aK e,show(x==y)=true from by simp[e]];exact h ρ H
  ·rw[aD e,show(x==y)=false from by simpa using e];exact ih
def uP(X:Cx)(x:Str)(kvs:List D):Prop:=∃A vs,X.mg x=some (.ref A)/\sS X.K X.w.params A vs/\nU X.K kvs vs
def uU(neg:Bool):Pr:=if neg then .sm else .BO
theorem FR:PR (uU neg)=Al neg:=by cases neg<;>rfl
theorem UK(a b c:Str):a++b++c=a++(b++c):=by
 cases a;cases b;cases c;show Str.mk _=Str.mk _;exact du Str.mk (GX ..)
theorem Oc(x:Str):x++Str.empty=x:=by cases x;show Str.mk _=_;simp[Str.empty]
theorem M'(x:Str):Str.empty++x=x:=by cases x;show Str.mk _=_;simp[Str.empty]
section
variable{X:Cx}{Ξ:gh}{P:eB}(hP:i6 P){a c:Expr}{ma:ME}{pos:Pos}
include hP
theorem Ls(hg:Gl X x)(hd:(x==("__debug__":Str))=false)(hG:uP X x kvs)(ha:PE X a (LE X.K Ξ (aP P ma)))(hm:behindInMarks (if neg then .NotIn else .In) (.Name x p)=false) :
  PE X (.Compare a [if neg then .NotIn else .In] [.Name x p] pos) (LE X.K Ξ (aP P (.prim (uU neg) (.cons (.lit (.tup kvs)) (.cons ma .nil))))):=by
 obtain⟨A,vs,hmg,hk,gr⟩:=hG;refine(Ge (Ft (kvs:=vs) neg) ha (vE (v:=.ref A) hg hmg rfl hd) hm).imp λbE H Q aS=>?_;obtain⟨Z,g,ρ,s,R,h⟩:=aS;refine eh hP s R (.refl _ _) h λd g1 bA H1 v1 e1 R1 r1 h=>?_;obtain⟨d',g',h,q⟩:=h;rw[FR] at h;obtain⟨qZ,z,ex,rfl,rfl⟩:=h;cases ex;obtain rfl:=r1.A7;refine⟨A,z,rfl,hk,rfl,?_⟩;rw[<- (gr.look (ρ:=bA) (H:=H1) z).isSome];exact q bA H1 _ e1 R1 (.bl _)
theorem LJ(hg:Gl X x)(hd:(x==("__debug__":Str))=false)(hG:uP X x kvs)(ha:PE X a (LE X.K Ξ (aP P ma)))(hm:behindInMarks (if neg then .NotIn else .In) (.Name x p)=false) :
  PT X (.Compare a [if neg then .NotIn else .In] [.Name x p] pos) (LT X.K Ξ (dq P (.dE (.prim (uU neg) (.cons (.lit (.tup kvs)) (.cons ma .nil)))))):=by
 obtain⟨A,vs,hmg,hk,gr⟩:=hG;refine(yU (Ft (kvs:=vs) neg) ha (vE (v:=.ref A) hg hmg rfl hd) hm).imp λbE H Q aS=>?_;obtain⟨Z,g,ρ,s,R,h⟩:=aS;refine eh hP s R (.refl _ _) h λd g1 bA H1 v1 e1 R1 r1 h=>?_;obtain⟨d',g',h,t,ht,q⟩:=h;rw[FR] at h;obtain⟨qZ,z,ex,rfl,rfl⟩:=h;cases ex;obtain rfl:=r1.A7;refine⟨A,z,rfl,hk,rfl,t,?_,q bA H1 e1 R1⟩;rw[<- (gr.look (ρ:=bA) (H:=H1) z).isSome];rcases ht with⟨z,_⟩|z|⟨i,z,_⟩|⟨l,z,_⟩|⟨a,l,z,_⟩<;>cases z
 rfl
theorem NO(hg:Gl X x)(hd:(x==("__debug__":Str))=false)(hG:uP X x kvs)(ha:PE X a (LE X.K Ξ (aP P ma)))(hs:yI a):PE X (.Subscript (.Name x p) a pos) (LE X.K Ξ (aP P (.prim .nc (.cons (.lit (.tup kvs)) (.cons ma .nil))))):=by
 obtain⟨A,vs,hmg,hk,gr⟩:=hG;refine(CZ (QZ (kvs:=vs)) (vE (v:=.ref A) hg hmg rfl hd) ha hs).imp λbE H Q aS=>?_;obtain⟨Z,g,ρ,s,R,h⟩:=aS;refine eh hP s R (.refl _ _) h λd g1 bA H1 v1 e1 R1 r1 h=>?_;obtain⟨d',g',⟨qZ,z,ex,hz,rfl⟩,q⟩:=h;cases ex;obtain rfl:=r1.A7;have lk:=gr.look (ρ:=bA) (H:=H1) z;rw[hz] at lk;obtain⟨w,hw,lk⟩:=lk.some;exact⟨A,z,w,rfl,hk,rfl,hw,q bA H1 _ e1 R1 lk⟩
theorem RV(ha:PE X a (LE X.K Ξ (aP P ma))):PE X (.FormattedValue a (-1) none pos) (LE X.K Ξ (aP P (.prim .fv (.cons ma .nil)))) :=
 (RE ha).imp λbE H Q aS=>by
  obtain⟨Z,g,ρ,s,R,h⟩:=aS;refine eh hP s R (.refl _ _) h λd g1 bA H1 v1 e1 R1 r1 h=>?_;obtain⟨d',g',⟨rfl,h⟩,q⟩:=h;rcases h with⟨i,ex,h1,rfl⟩|⟨z,ex,h1,rfl⟩
  ·cases ex;exact .inl ⟨i,r1.f7,h1,q bA H1 _ e1 R1 (.str _)⟩
  ·cases ex;exact .inr ⟨z,r1.A7,j6 (by omega),q bA H1 _ e1 R1 (.str _)⟩
omit hP in
inductive kW(X:Cx)(Ξ:gh)(P:eB):List Expr->ME->List TE->Prop
 |nil:kW X Ξ P [] .nil []
 |lit {x:Str} {j:Nat} {p:Pos} {es:List Expr} {ms:ME} {ts:List TE} (hx:x.length<=2000) (r:kW X Ξ P es ms ts):kW X Ξ P (.Constant (.str x) j p::es) (.cons (.lit (.str x)) ms) (LE X.K Ξ (aP P (.lit (.str x)))::ts)
 |val {e:Expr} {m:ME} {p:Pos} {es:List Expr} {ms:ME} {ts:List TE} (he:PE X e (LE X.K Ξ (aP P m))) (r:kW X Ξ P es ms ts):kW X Ξ P (.FormattedValue e (-1) none p::es) (.cons (.prim .fv (.cons m .nil)) ms) (LE X.K Ξ (aP P (.prim .fv (.cons m .nil)))::ts)
theorem kW.HE{es ms ts}(h:kW X Ξ P es ms ts):qv X es ts:=by
 induction h with
 |nil=>exact .nil
 |lit hx r ih=>exact .cons (P5 Fu λ_ _=>.str _) ih
 |val he r ih=>exact .cons (RV hP he) ih
theorem kW.join{bE:L2.St}{Q:Str->Hp->Prop}{es ms ts}(hf:kW X Ξ P es ms ts):∀{Z:S} {g:G} {ρ:List Addr} {H:Hp} {acc:Str},acc.length+2000*es.length<=100000->j8 X.K ρ H Z bE->Rl X.K ρ g H ->
  eN P ms Z g (λds g1=>∃x,Y2 ds=some x/\∀bw H',Ext ρ H bw H'->Rl X.K bw g1 H'->Q (acc++x) H') (LX X.K ρ H Ξ)->uZ ts bE H acc (λout H1=>out.length<=sizeLine/\Q out H1):=by
 have tl:∀{acc y:Str} {ρ:List Addr} {H:Hp} {bA:List Addr} {H1:Hp} {ds:List D} {g1:G},Ext ρ H bA H1->(∃x,Y2 (.str y::ds)=some x/\∀bw H',Ext ρ H bw H'->Rl X.K bw g1 H'->Q (acc++x) H')->∃x,Y2 ds=some x/\∀bw H',Ext bA H1 bw H'->Rl X.K bw g1 H'->Q (acc++y++x) H':=by
  intro acc y ρ H bA H1 ds g1 e1 h;obtain⟨x,hx,h⟩:=h;simp only[Y2] at hx;cases hj:Y2 ds with
  |none=>rw[hj] at hx;cases hx
  |some x' =>
   rw[hj] at hx;cases hx;refine⟨x',rfl,λbw H' e' R'=>?_⟩;rw[UK];exact h bw H' (e1.trans e') R'
 induction hf with
 |nil =>
  intro Z g ρ H acc ha s R h;obtain⟨x,hx,h⟩:=h;cases hx;rw[Oc] at h;exact⟨j6 (by simpa using ha),h ρ H (.refl _ _) R⟩
 |lit hx r ih =>
  rename_i y j p es ms ts;intro Z g ρ H acc ha s R h;refine⟨Z,g,ρ,s,R,?_⟩;intro bA H1 v1 e1 R1 r1;obtain rfl:=r1.A7;have hl:(acc++y).length<=acc.length+2000:=by rw[strLen_append];omega
  simp only[List.length_cons] at ha;exact⟨y,rfl,j6 (by omega),ih (by omega) (s.ext e1) R1 (p6 hP _ _ _ _ _ _ _ (λds g1 h=>tl e1 h) (λ_ _ z=>LX.ext e1 z) h)⟩
 |val he r ih =>
  rename_i e m p es ms ts;intro Z g ρ H acc ha s R h;refine⟨Z,g,ρ,s,R,?_⟩;simp only[List.length_cons] at ha;refine a6 hP m _ _ _ _ _ _ (λd g1 h=>?_) (λ_ _ z=>z) h;obtain⟨d',g',⟨rfl,h⟩,q⟩:=h;have hy:∃y,d'=.str y/\y.length<=2000:=by
   rcases h with⟨i,ex,h1,rfl⟩|⟨z,ex,h1,rfl⟩
   ·exact⟨_,rfl,by rw[PySem.ofString_length];have:=int_text_length_le (k:=1920) (by decide) h1;omega⟩
   ·exact⟨z,rfl,h1⟩
  obtain⟨y,rfl,hy⟩:=hy;refine⟨_,_,⟨rfl,h⟩,λbA H1 v1 e1 R1 r1=>?_⟩;obtain rfl:=r1.A7;have hl:(acc++y).length<=acc.length+2000:=by rw[strLen_append];omega
  exact⟨y,rfl,j6 (by omega),ih (by omega) (s.ext e1) R1 (p6 hP _ _ _ _ _ _ _ (λds g1 h=>tl e1 h) (λ_ _ z=>LX.ext e1 z) q)⟩
theorem NN{kn km:Expr}{rest:List Expr}{ms:ME}{ts:List TE}(h:kW X Ξ P (kn::km::rest) ms ts)(hl:(kn::km::rest).length<=40):PE X (.JoinedStr (kn::km::rest) pos) (LE X.K Ξ (aP P (.prim .lS ms))) :=
 (Np (h.HE hP)).imp λbE H Q aS=>by
  obtain⟨Z,g,ρ,s,R,hw⟩:=aS;refine kW.join hP h (Q:=λout H1=>Q (.str out) H1) (acc:=Str.empty) ?_ s R (p6 hP ms _ _ _ _ _ _ (λds g1 hw=>?_) (λ_ _ z=>z) hw)
  ·have:Str.empty.length=0:=rfl;omega
  ·obtain⟨d',g',⟨x,hx,rfl,rfl⟩,q⟩:=hw;refine⟨x,hx,λbw H' e' R'=>?_⟩;rw[M'];exact q bw H' _ e' R' (.str _)
omit hP in
def nC(ex:List Str)(K:PySem.W.Frag)(n:Nat)(t:List D->G->KD->KX->Prop):Sp:=λvs H Q E=>vs.length=n/\∃ds g ρ,a4 K ρ H ds vs/\Rl K ρ g H/\t ds g (LQ K ρ H Q) (LX K ρ H (ex,E))
omit hP in
def mD(X:Cx)(P:eB)(ex:List Str)(k f:Nat)(fa:Addr)(fd:FuncData)(ps:List Str):Prop :=
 fV X.prog X.w X.K X.mg X.base (gj X.prog X.w) k fa fd ps (nC ex X.K ps.length (P f))/\Binds X.K fd ps []/\∀ds g Q E,P f ds g Q E->ds.length=ps.length
theorem tB{k:Nat}(F:mD X P Ξ.1 k f fa fd ps){ρ:List Addr}{g:G}{Q0:KD}{Q:VK}(e0:Ext fu H0 ρ H)(R:Rl X.K ρ g H)(r:a4 X.K ρ H xs vs)(h:P f xs g Q0 (LX X.K fu H0 Ξ))(k:∀d g',Q0 d g'->LQ X.K ρ H Q d g'):nC Ξ.1 X.K ps.length (P f) (vs++[]) H Q Ξ.2:=by
 rw[fk];exact⟨by rw[<- r.length];exact F.2.2 _ _ _ _ h,xs,g,ρ,r,R,hP _ _ _ _ _ _ _ k (λ_ _ z=>LX.ext e0 z) h⟩
theorem NK(hx:Passes (gj X.prog X.w) X Ξ.2)(F:mD X P Ξ.1 k f fa fd ps)(hr:m6 k X.A)(hg:Gl X x)(hm:X.mg x=some (.ref fa))(hk:PySem.W.keepIn X.K (.ref fa)=true)(ha:PA X (e::es) (LA X.K Ξ (eN P fG)))(hd:(x==("__debug__":Str))=false)(ei:starEach (e::es) X.env=(false,eval e X.env)::starEach es X.env)(fO:(backTo pos (starEach es X.env)).any (·.1)=false):PE X (.Call (.Name x p) (e::es) [] pos) (LE X.K Ξ (aP P (.call f fG))) :=
 (Nm F.1 hr hg hm hk F.2.1 .nil hx ha hd ei fO).imp λbE H Q aS=>by
  obtain⟨Z,g,ρ,s,R,h⟩:=aS;exact iD hP s R (.refl _ _) h λxs g1 bA H1 vs e1 R1 r1 h=>tB hP F e1 R1 r1 h λd g' h=>h.ext e1
theorem XM(hx:Passes (gj X.prog X.w) X Ξ.2)(F:mD X P Ξ.1 k f fa fd ps)(hr:m6 k X.A)(hg:Gl X x)(hm:X.mg x=some (.ref fa))(hk:PySem.W.keepIn X.K (.ref fa)=true)(hd:(x==("__debug__":Str))=false):PE X (.Call (.Name x p) [] [] pos) (LE X.K Ξ (aP P (.call f .nil))) :=
 (Xp F.1 hr hg hm hk F.2.1 .nil hx hd).imp λbE H Q aS=>by
  obtain⟨Z,g,ρ,s,R,h⟩:=aS;exact tB hP F (.refl _ _) R .nil h λd g' h=>h
theorem FZ{c:Str}(F:mD X P Ξ.1 k f fa fd ps)(hC:k9 X.K c C)(hc:ik X.K C){ρ:List Addr}{g1:G}{Q:VK}(e0:Ext fu H0 ρ H)(R:Rl X.K ρ g1 H)(r:a4 X.K ρ H xs vs)(h:P f (.ref g1.length::xs) (g1++[.ins c []]) (λd g2=>d=.bc/\LQ X.K fu H0 Q (.ref g1.length) g2) (LX X.K fu H0 Ξ)):∀x dx,H x=none->H dx=none->dx≠x->nC Ξ.1 X.K ps.length (P f) (.ref x::(vs++[])) (upd (upd H dx (.own x)) x (.ins C dx [])) (λv H2=>v=.bc/\Q (.ref x) H2) Ξ.2:=by
 intro x dx hx BB eR;have Bm:upd H dx (.own x) x=none:=by rw[a7 (bg eR)];exact hx
 have R2:=R.grow (o:=.own x) BB;have e2:Ext ρ H ρ (upd H dx (.own x)):=o8 BB;have R3:=R2.new (o:=.ins c []) (u:=.ins C dx []) Bm ⟨hC,hc,.nil,λx hx=>absurd hx (by simp)⟩;have e3:Ext ρ (upd H dx (.own x)) (ρ++[x]) (upd (upd H dx (.own x)) x (.ins C dx [])):=t8 Bm;have:=tB hP F (e0.trans (e2.trans e3)) R3 (.cons (.ref (R.m9 x)) (r.ext (e2.trans e3))) h (Q:=λv H2=>v=.bc/\Q (.ref x) H2) λd g' q bw H' v e' R' r'=>by
  obtain⟨rfl,q⟩:=q;exact⟨r'.vh,q bw H' _ (e0.trans (e2.trans (e3.trans e'))) R' (.ref (e'.get (R.m9 x)))⟩
 exact this
theorem NQ(hx:Passes (gj X.prog X.w) X Ξ.2)(F:mD X P Ξ.1 k f fa fd ps)(M:Mk X.K C fa)(hC:k9 X.K x C)(hc:ik X.K C)(hr:m6 (k+1) X.A)(hg:Gl X x)(hm:X.mg x=some (.ref C))(ha:PA X (e::es) (LA X.K Ξ (eN P fG)))(hd:(x==("__debug__":Str))=false)(ei:starEach (e::es) X.env=(false,eval e X.env)::starEach es X.env)(fO:(backTo pos (starEach es X.env)).any (·.1)=false):PE X (.Call (.Name x p) (e::es) [] pos) (LE X.K Ξ (aP P (.make x f fG))) :=
 (Nq M F.1 hr hg hm F.2.1 .nil hx ha hd ei fO).imp λbE H Q aS=>by
  obtain⟨Z,g,ρ,s,R,h⟩:=aS;exact iD hP s R (.refl _ _) h λxs g1 bA H1 vs e1 R1 r1 h=>FZ hP F hC hc e1 R1 r1 h
theorem XS(hx:Passes (gj X.prog X.w) X Ξ.2)(F:mD X P Ξ.1 k f fa fd ps)(M:Mk X.K C fa)(hC:k9 X.K x C)(hc:ik X.K C)(hr:m6 (k+1) X.A)(hg:Gl X x)(hm:X.mg x=some (.ref C))(hd:(x==("__debug__":Str))=false):PE X (.Call (.Name x p) [] [] pos) (LE X.K Ξ (aP P (.make x f .nil))) :=
 (Xv M F.1 hr hg hm F.2.1 .nil hx hd).imp λbE H Q aS=>by
  obtain⟨Z,g,ρ,s,R,h⟩:=aS;exact FZ hP F hC hc (.refl _ _) R .nil h
omit hP in
def yH(X:Cx)(P:eB)(ex:List Str)(m:Str)(cs:List (Str×Nat)):Prop:=∀c f C,cs.lookup c=some f->k9 X.K c C->∃k fa fd ps,Meth X.K C m fa/\mD X P ex k f fa fd ps/\m6 k X.A
theorem XU{m:Str}{cs:List (Str×Nat)}{o:Expr}{mo:ME}{apos:Pos}{pl:Sem Bool}(hx:Passes (gj X.prog X.w) X Ξ.2)(hM:yH X P Ξ.1 m cs)(ho:PE X o (LE X.K Ξ (aP P mo)))(ha:PA X (e::es) (LA X.K Ξ (eN P fG)))(ei:starEach (e::es) X.env=(false,eval e X.env)::starEach es X.env)(fO:(backTo pos (starEach es X.env)).any (·.1)=false)(ht:eval (.Call (.Attribute o m apos) (e :: es) [] pos) X.env=(do
   let ov <- eval o X.env
   standAt apos.atName
   let (f,first) <- holding [ov] (getMethod ov m pl)
   callWith pos f first (backTo pos (starEach (e :: es) X.env)) (backToKw pos (keywordEach [] X.env)))):PE X (.Call (.Attribute o m apos) (e :: es) [] pos) (LE X.K Ξ (aP P (.bq m cs mo fG))) :=
 (Xw ho hx ha ei fO ht).imp λbE H Q aS=>by
  obtain⟨Z,g,ρ,s,R,h⟩:=aS;refine eh hP s R (.refl _ _) h λx g1 bA H1 v1 e1 R1 r1 h=>?_;obtain⟨i,c,fs,f,rfl,hi,hf,nK,h⟩:=h;obtain⟨a',rfl,ra⟩:=r1.d8;obtain⟨C,dx,vs,hH,hC,gN,rk,na⟩:=R1.ins hi ra;obtain⟨k,fa,fd,ps,M,F,hr⟩:=hM c f C nK hC;have lk:=rk.look m;rw[hf] at lk;have hl:vs.lookup m=none:=by cases e:vs.lookup m with|none=>rfl|some w=>rw[e] at lk;exact lk.elim
  refine⟨a',C,dx,vs,fa,fd,ps,k,_,rfl,hH,hl,gN,M,F.1,hr,F.2.1,?_⟩;exact iD hP (s.ext e1) R1 e1 h λxs g2 dM H2 ws e2 R2 r2 h=>tB hP F (e1.trans e2) R2 (.cons (.ref (e2.get ra)) r2) h λd g' h=>h.ext (e1.trans e2)
theorem UI{m:Str}{cs:List (Str×Nat)}{o:Expr}{mo:ME}{apos:Pos}{pl:Sem Bool}(hx:Passes (gj X.prog X.w) X Ξ.2)(hM:yH X P Ξ.1 m cs)(ho:PE X o (LE X.K Ξ (aP P mo)))(ht:eval (.Call (.Attribute o m apos) [] [] pos) X.env=(do
   let ov <- eval o X.env
   standAt apos.atName
   let (f,first) <- holding [ov] (getMethod ov m pl)
   callWith pos f first (backTo pos (starEach [] X.env)) (backToKw pos (keywordEach [] X.env)))):PE X (.Call (.Attribute o m apos) [] [] pos) (LE X.K Ξ (aP P (.bq m cs mo .nil))) :=
 (Uv ho hx ht).imp λbE H Q aS=>by
  obtain⟨Z,g,ρ,s,R,h⟩:=aS;refine eh hP s R (.refl _ _) h λx g1 bA H1 v1 e1 R1 r1 h=>?_;obtain⟨i,c,fs,f,rfl,hi,hf,nK,h⟩:=h;obtain⟨a',rfl,ra⟩:=r1.d8;obtain⟨C,dx,vs,hH,hC,gN,rk,na⟩:=R1.ins hi ra;obtain⟨k,fa,fd,ps,M,F,hr⟩:=hM c f C nK hC;have lk:=rk.look m;rw[hf] at lk;have hl:vs.lookup m=none:=by cases e:vs.lookup m with|none=>rfl|some w=>rw[e] at lk;exact lk.elim
  exact⟨a',C,dx,vs,fa,fd,ps,k,_,rfl,hH,hl,gN,M,F.1,hr,F.2.1,tB hP F e1 R1 (.cons (.ref ra) .nil) h λd g' h=>h.ext e1⟩
end
inductive jz(K:PySem.W.Frag)(ρ:List Addr)(H:Hp):List D->List (V×V)->Prop
 |nil:jz K ρ H [] []
 |cons {k d:D} {x y:V} {ds:List D} {ps:List (V×V)} (h1:b6 K ρ H k x) (h2:b6 K ρ H d y) (r:jz K ρ H ds ps):jz K ρ H (k::d::ds) ((x,y)::ps)
theorem JS{K ρ H}{ps:List (V×V)}(r:jz K ρ H xs ps):∀{acc kvs:List (Key×D)} {accV:List (Key×V)},qd xs acc=some kvs->d6 K ρ H acc accV->∃more:List (Key×V),ps=more.map (λkv=>(kV kv.1,kv.2))/\2*more.length=xs.length/\d6 K ρ H kvs (P9 accV more):=by
 induction r with
 |nil =>
  intro acc kvs accV h ra;cases h;exact⟨[],rfl,rfl,ra⟩
 |cons h1 h2 r ih =>
  rename_i k d x y ds ps;intro acc kvs accV h ra;simp only[qd] at h;cases hk:Q5 k with
  |none=>rw[hk] at h;cases h
  |some c =>
   rw[hk] at h;obtain⟨more,e1,e2,r2⟩:=ih (show qd ds (putD acc c d)=some kvs from h) (ra.put h2);have ex:=L8 hk h1;subst ex;refine⟨(c,y)::more,by rw[ba,<- e1],by simp only[List.length_cons];omega,r2⟩
section
variable{X:Cx}{Ξ:gh}{P:eB}(hP:i6 P){pos:Pos}
inductive kX(X:Cx)(Ξ:gh)(P:eB):List (Option Expr)->List Expr->ME->List (TE×TE)->Prop
 |nil:kX X Ξ P [] [] .nil []
 |cons {k v:Expr} {ks:List (Option Expr)} {vs:List Expr} {mk mv ms:ME} {gF:List (TE×TE)} (hk:PE X k (LE X.K Ξ (aP P mk))) (hv:PE X v (LE X.K Ξ (aP P mv))) (r:kX X Ξ P ks vs ms gF) :
   kX X Ξ P (some k::ks) (v::vs) (.cons mk (.cons mv ms)) ((LE X.K Ξ (aP P mk),LE X.K Ξ (aP P mv))::gF)
theorem kX.HD{ks vs ms gF}(h:kX X Ξ P ks vs ms gF):tW X pos ks vs gF:=by
 induction h with
 |nil=>exact Nx
 |cons hk hv r ih=>exact XC hk hv ih
theorem kX.len{ks vs ms gF}(h:kX X Ξ P ks vs ms gF):ks.all (·.isSome)=true/\ks.length=vs.length:=by
 induction h with
 |nil=>exact⟨rfl,rfl⟩
 |cons hk hv r ih=>exact⟨by simpa using ih.1,by simp[ih.2]⟩
include hP
theorem kX.pairs{ks vs ms gF}(hd:kX X Ξ P ks vs ms gF):∀{bE:L2.St} {Z:S} {g:G} {ρ fu:List Addr} {H H0:Hp} {Qd:List D->G->Prop} {Q:List (V×V)->Hp->Prop},j8 X.K ρ H Z bE->Rl X.K ρ g H->Ext fu H0 ρ H->eN P ms Z g Qd (LX X.K fu H0 Ξ) ->
  (∀ds g' bw H' ps,Ext ρ H bw H'->Rl X.K bw g' H'->jz X.K bw H' ds ps->Qd ds g'->Q ps H')->vj gF bE H Q:=by
 induction hd with
 |nil =>
  intro bE Z g ρ fu H H0 Qd Q s R e0 h k;exact k [] g ρ H [] (.refl _ _) R .nil h
 |cons hk hv r ih =>
  intro bE Z g ρ fu H H0 Qd Q s R e0 h k;refine eh hP s R e0 h λx g1 bA H1 v1 e1 R1 r1 h=>eh hP (s.ext e1) R1 (e0.trans e1) h λy g2 dM H2 v2 e2 R2 r2 h=>?_;refine ih (s.ext (e1.trans e2)) R2 (e0.trans (e1.trans e2)) h λds g' bw H' ps e' R' rp hq=>?_;exact k _ g' bw H' _ (e1.trans (e2.trans e')) R' (.cons (r1.ext (e2.trans e')) (r2.ext e') rp) hq
theorem Lq{ks:List (Option Expr)}{vs:List Expr}{ms:ME}{gF:List (TE×TE)}(hd:kX X Ξ P ks vs ms gF)(h0:ks≠[])(ye:ks.length<=15):PE X (.Dict ks vs pos) (LE X.K Ξ (aP P (.mz ms))) :=
 (Nn hd.HD hd.len.1 hd.len.2 h0 ye).imp λbE H Q ⟨Z,g,ρ,s,R,h⟩ p hp=>by
  have e1:Ext ρ H (ρ++[p]) (upd H p (.dK [])):=t8 hp;refine kX.pairs hP hd (s.ext e1) (R.new hp (o:=.bN []) (u:=.dK []) d6.nil) e1 h λds g2 dM H2 ps e2 R2 rp hq=>?_;obtain⟨kvs,hk,hz,hg,q⟩:=hq;have nF:dM[g.length]?=some p:=e2.get (R.m9 p);obtain⟨YG,hv,rv⟩:=R2.bN hg nF;cases rv;obtain⟨more,em,hl,rk⟩:=JS rp hk (accV:=[]) .nil;refine⟨hv,more,em,by omega,?_⟩;obtain⟨R3,e3⟩:=R2.put (o':=.bN kvs) (u:=.dK (P9 [] more)) hg rfl nF rk;exact q dM _ _ (e1.trans (e2.trans e3)) R3 (.ref nF)
end
theorem Rg{l:List D}(ht:TupAt K H0 a vs)(rs:a4 K fu H0 l vs):U3 K fu H0 (.fix l) (Aw K a):=by
 intro ρ g H e R i;have rB:=ht.ext e;have AV:=rs.ext e;refine⟨λh=>⟨vs,rB.sq,?_⟩,λd h=>?_⟩
 ·simp only[IK.at] at h;have:=cJ.mp (aB h);rw[<- AV.length];exact this
 ·simp only[IK.at] at h;obtain⟨v,hv,rv⟩:=AV.get (aB h);refine⟨⟨vs,v,rB.sq,hv⟩,λw H' y=>?_⟩;obtain⟨rfl,y⟩:=y;have:=y vs rB.sq;rw[hv] at this;cases this;exact⟨.refl _ _,R,rv⟩
theorem Rc(ha:fu[j]?=some a):U3 K fu H0 (.lst j) (Ax K a):=by
 intro ρ g H e R i;have kE:=e.get ha;refine⟨λh=>?_,λd h=>?_⟩
 ·simp only[IK.at] at h;cases el:b7 g j with
  |none=>rw[el] at h;cases h
  |some l =>
   rw[el] at h;obtain⟨vs,hq,rs⟩:=R.items el kE;refine⟨vs,hq,?_⟩;have:=cJ.mp (aB h);rw[<- rs.length];exact this
 ·simp only[IK.at] at h;cases el:b7 g j with
  |none=>rw[el] at h;cases h
  |some l =>
   rw[el] at h;obtain⟨vs,hq,rs⟩:=R.items el kE;obtain⟨v,hv,rv⟩:=rs.get (aB h);refine⟨⟨vs,v,hq,hv⟩,λw H' y=>?_⟩;obtain⟨rfl,y⟩:=y;have:=y vs hq;rw[hv] at this;cases this;exact⟨.refl _ _,R,rv⟩
theorem CS{lo:Int}{n:Nat}:U3 K fu H0 (.fix (w6 lo n)) (tZ lo n):=by
 unfold w6;intro ρ g H e R i;refine⟨λh=>?_,λd h=>?_⟩
 ·simp only[IK.at] at h;have:=cJ.mp (aB h);show n<=i;simpa using this
 ·simp only[IK.at] at h;have h:=aB h;have hi:i<n:=by
   have:=(ax.mp h).1;simpa using this
  rw[aF,AF hi] at h;cases h;refine⟨hi,λw H' y=>?_⟩;obtain⟨rfl,rfl⟩:=y;exact⟨.refl _ _,R,.int _⟩
theorem Rf{n:Nat}(ha:fu[j]?=some a):U3 K fu H0 (.uv j n) (Av K a n):=by
 intro ρ g H e R i;have kE:=e.get ha;refine⟨λh=>?_,λd h=>?_⟩
 ·simp only[IK.at] at h;cases el:b7 g j with
  |none=>rw[el] at h;cases h
  |some l =>
   rw[el] at h;dsimp only at h;by_cases hl:l.length=n
   ·rw[aK hl] at h;have h:=aB h;by_cases hi:i<n
    ·rw[aK hi] at h;have:=cJ.mp h;omega
    ·exact kh hi
   ·rw[aD hl] at h;cases h
 ·simp only[IK.at] at h;cases el:b7 g j with
  |none=>rw[el] at h;cases h
  |some l =>
   rw[el] at h;dsimp only at h;by_cases hl:l.length=n
   ·rw[aK hl] at h;have h:=aB h;by_cases hi:i<n
    ·rw[aK hi] at h;obtain⟨vs,hq,rs⟩:=R.items el kE;obtain⟨v,hv,rv⟩:=rs.get h;refine⟨⟨vs,v,hq,by rw[<- rs.length];exact hl,hi,hv⟩,λw H' y=>?_⟩;obtain⟨rfl,y⟩:=y;have:=y vs hq;rw[hv] at this;cases this;exact⟨.refl _ _,R,rv⟩
    ·rw[aD hi] at h;cases h
   ·rw[aD hl] at h;cases h
theorem Rb(ha:fu[j]?=some a):U3 K fu H0 (.uM j) (Ay K a):=by
 intro ρ g H e R i;have kE:=e.get ha;refine⟨λh=>?_,λd h=>?_⟩
 ·simp only[IK.at] at h;cases el:b7 g j with
  |none=>rw[el] at h;cases h
  |some l =>
   rw[el] at h;obtain⟨vs,hq,rs⟩:=R.items el kE;refine⟨vs,hq,?_⟩;have h:=aB h;rw[Option.map_eq_none_iff] at h;have:=cJ.mp h;rw[<- rs.length];exact this
 ·simp only[IK.at] at h;cases el:b7 g j with
  |none=>rw[el] at h;cases h
  |some l =>
   rw[el] at h;obtain⟨vs,hq,rs⟩:=R.items el kE;have h:=aB h;rw[ae] at h;obtain⟨d',hd,rfl⟩:=h;obtain⟨v,hv,rv⟩:=rs.get hd;refine⟨⟨vs,v,hq,hv⟩,λw H' y=>?_⟩;obtain⟨p,x,hp,rfl,y,rfl⟩:=y;have:=y vs hq;rw[hv] at this;cases this;exact⟨o8 hp,R.grow hp,.tup (.inl f9) (.cons (.int _) (.cons (rv.ext (o8 hp)) .nil))⟩
end M
namespace L2
open PySem PySem.Spec PyProof.Rows
theorem KW{X:Cx}{tg l:Expr}{tl:TE}(hl:PE X l tl):PI X tg l (λZ H R=>tl Z H λx H1=>(∃a,x=.ref a/\(∃xs,eT X.K H1 a xs)/\R (Ax X.K a) H1)\/(∃a,x=.ref a/\(∃xs,gw X.K H1 a xs)/\R (Aw X.K a) H1)):=by
 intro pins s Z H R I h;refine bS (hl pins s Z H _ I h) λv s1 aS=>?_;obtain⟨x,H1,I1,r1,q1⟩:=aS;rcases q1 with⟨a,e,⟨xs,hq⟩,q⟩|⟨a,e,⟨xs,hq⟩,q⟩
 ·subst e;cases r1;obtain⟨aL,rv,p,hz⟩:=I1.list hq;refine gP p.isList ?_;refine⟨s1.heap.objs.size,[s1.heap.objs.size],_,_,H1,rfl,I1.kept (t':=s1.toks) λb o e=>ah _ e,UP a _,⟨_,au _ rfl,rfl,rfl⟩,λb hb=>?_,q⟩;have e:b=s1.heap.objs.size:=by simpa using hb
  subst e;exact I1.Y8 (aj _) (I1.br.fresh (aj _))
 ·subst e;cases r1;obtain⟨aL,rv,p,hz⟩:=I1.tuple hq;refine wpAny_pyIter_tuple (show s1.heap.IsTuple a aL.toArray from p) ?_;refine⟨s1.heap.objs.size,[s1.heap.objs.size],_,_,H1,rfl,I1.kept (t':=s1.toks) λb o e=>ah _ e,VE a _,⟨_,au _ rfl,rfl,rfl⟩,λb hb=>?_,q⟩;have e:b=s1.heap.objs.size:=by simpa using hb
  subst e;exact I1.Y8 (aj _) (I1.br.fresh (aj _))
end L2
namespace M
open PySem L2 PySem.Spec PyProof.Rows
variable{X:Cx}{tg o:Expr}{pos p tp:Pos}{i:Nat}{x f:Str}{t:MT}{mo mi:ME}{cs:List Str}
section
variable{Ξ:gh}{P:eB}(hP:i6 P){a b:Expr}{ma mb:ME}
include hP
theorem LC(ha:PE X a (LE X.K Ξ (aP P ma))):PI X tg a (LI X.K Ξ (hX P (.eL ma))) :=
 (KW ha).imp λbE H R aS=>by
  obtain⟨Z,g,ρ,s,Rr,h⟩:=aS;refine eh hP s Rr (.refl _ _) h λx g1 bA H1 v1 e1 R1 r1 h=>?_;rcases h with⟨l,rfl,h⟩|⟨i,l,rfl,hl,h⟩
  ·obtain⟨a',vs,rfl,ht,rs⟩:=r1.v9;exact .inr ⟨_,rfl,⟨_,ht.sq⟩,h bA H1 _ e1 R1 (Rg ht rs)⟩
  ·obtain⟨a',rfl,kE⟩:=r1.d8;obtain⟨vs,hq,rs⟩:=R1.items hl kE;exact .inl ⟨_,rfl,⟨_,hq⟩,h bA H1 _ e1 R1 (Rc kE)⟩
theorem NX{elts:List Expr}{x1:Nat}(ha:PE X a (LE X.K Ξ (aP P ma)))(hg:Gl X "enumerate")(hm:X.mg "enumerate"=none)(hs:starEach [a] X.env=[(false,eval a X.env)]):PI X (.Tuple elts x1 tp) (.Call (.Name "enumerate" p) [a] [] pos) (LI X.K Ξ (hX P (.kS ma))) :=
 (Nv hg hm (u5 hP ha (F6 hP) (by rw[hs];rfl)) hs).imp λbE H R aS=>by
  obtain⟨Z,g,ρ,s,Rr,h⟩:=aS;refine iD hP (m:=.cons ma .nil) s Rr (.refl _ _) (Q0:=λxs g1=>∃a l,xs=[.ref a]/\b7 g1 a=some l/\∀bw H' J,Ext ρ H bw H'->Rl X.K bw g1 H'->U3 X.K bw H' (.uM a) J->R J H') ?_ λxs g1 bA H1 vs e1 R1 r1 h=>?_
  ·skip
   exact a6 hP ma _ _ _ _ _ _ (λx g1 ⟨i,l,e,hl,h⟩=>⟨i,l,by rw[e],hl,h⟩) (λ_ _ z=>z) h
  ·obtain⟨j,l,rfl,hl,h⟩:=h;obtain⟨v,rfl,rv⟩:=r1.one;obtain⟨a',rfl,ra⟩:=rv.d8;obtain⟨vs,hq,rs⟩:=R1.items hl ra;exact⟨_,rfl,⟨_,hq⟩,h bA H1 _ e1 R1 (Rb ra)⟩
theorem LB(ha:PE X a (LE X.K Ξ (aP P ma)))(hg:Gl X "reversed")(hm:X.mg "reversed"=none)(hs:starEach [a] X.env=[(false,eval a X.env)]):PI X tg (.Call (.Name "reversed" p) [a] [] pos) (LI X.K Ξ (hX P (.mR ma))) :=
 (KU hg hm (u5 hP ha (F6 hP) (by rw[hs];rfl)) hs).imp λbE H R aS=>by
  obtain⟨Z,g,ρ,s,Rr,h⟩:=aS;refine iD hP (m:=.cons ma .nil) s Rr (.refl _ _) (Q0:=λxs g1=>∃a l,xs=[.ref a]/\b7 g1 a=some l/\∀bw H' J,Ext ρ H bw H'->Rl X.K bw g1 H'->U3 X.K bw H' (.uv a l.length) J->R J H') ?_ λxs g1 bA H1 vs e1 R1 r1 h=>?_
  ·skip
   exact a6 hP ma _ _ _ _ _ _ (λx g1 ⟨i,l,e,hl,h⟩=>⟨i,l,by rw[e],hl,h⟩) (λ_ _ z=>z) h
  ·obtain⟨j,l,rfl,hl,h⟩:=h;obtain⟨v,rfl,rv⟩:=r1.one;obtain⟨a',rfl,ra⟩:=rv.d8;obtain⟨vs,hq,rs⟩:=R1.items hl ra;exact⟨_,vs,rfl,hq,h bA H1 _ e1 R1 (by rw[rs.length];exact Rf ra)⟩
theorem NY(ha:PE X a (LE X.K Ξ (aP P ma)))(hg:Gl X "range")(hm:X.mg "range"=none)(hs:starEach [a] X.env=[(false,eval a X.env)]):PI X tg (.Call (.Name "range" p) [a] [] pos) (LI X.K Ξ (hX P (.fq ma))) :=
 (Uz hg hm (u5 hP ha (F6 hP) (by rw[hs];rfl)) hs).imp λbE H R aS=>by
  obtain⟨Z,g,ρ,s,Rr,h⟩:=aS;refine iD hP (m:=.cons ma .nil) s Rr (.refl _ _) (Q0:=λxs g1=>∃j:Int,xs=[.int j]/\-(2 ^ 62)<=j/\j<2 ^ 62/\∀bw H' J,Ext ρ H bw H'->Rl X.K bw g1 H'->U3 X.K bw H' (.fix (w6 0 j.toNat)) J->R J H') ?_ λxs g1 bA H1 vs e1 R1 r1 h=>?_
  ·skip
   exact a6 hP ma _ _ _ _ _ _ (λx g1 ⟨j,e,h1,h2,h⟩=>⟨j,by rw[e],h1,h2,h⟩) (λ_ _ z=>z) h
  ·obtain⟨j,rfl,h1,h2,h⟩:=h;obtain⟨v,rfl,rv⟩:=r1.one;obtain rfl:=rv.f7;exact⟨_,rfl,h1,h2,h bA H1 _ e1 R1 CS⟩
theorem NZ(ha:PE X a (LE X.K Ξ (aP P ma)))(hb:PE X b (LE X.K Ξ (aP P mb)))(hg:Gl X "range")(hm:X.mg "range"=none)(hs:starEach [a,b] X.env=[(false,eval a X.env),(false,eval b X.env)])(gC:starEach [b] X.env=[(false,eval b X.env)]) :
  PI X tg (.Call (.Name "range" p) [a,b] [] pos) (LI X.K Ξ (hX P (.iT ma mb))) :=
 (UA hg hm (u5 hP ha (u5 hP hb (F6 hP) (by rw[gC];rfl)) (by rw[hs,gC])) hs gC).imp λbE H R aS=>by
  obtain⟨Z,g,ρ,s,Rr,h⟩:=aS;refine iD hP (m:=.cons ma (.cons mb .nil)) s Rr (.refl _ _) (Q0:=λxs g1=>∃i j:Int,xs=[.int i,.int j]/\(-(2 ^ 62)<=i/\i<2 ^ 62/\-(2 ^ 62)<=j/\j<2 ^ 62)/\∀bw H' J,Ext ρ H bw H'->Rl X.K bw g1 H'->U3 X.K bw H' (.fix (w6 i (j-i).toNat)) J->R J H') ?_ λxs g1 bA H1 vs e1 R1 r1 h=>?_
  ·skip
   exact a6 hP ma _ _ _ _ _ _ (λx g1 h=>a6 hP mb _ _ _ _ _ _ (λy g2 ⟨i,j,e,e',h1,h⟩=>⟨i,j,by rw[e,e'],h1,h⟩) (λ_ _ z=>z) h) (λ_ _ z=>z) h
  ·obtain⟨i,j,rfl,h1,h⟩:=h;obtain⟨v,w,rfl,rv,eE⟩:=r1.two;obtain rfl:=rv.f7;obtain rfl:=eE.f7;exact⟨_,_,rfl,h1,h bA H1 _ e1 R1 CS⟩
end
theorem Lz(hN:X.N.Nodup)(hi:X.N[i]?=some x)(hx:Loc X.env.scope x)(hf:X.fn x=true\/X.env.scope.names.lookup x=some .local):PG X (.Name x pos) (LG X.K (.one i)) :=
 (Gg hN hi hx hf).imp λv bE H Q hq=>by
  obtain⟨d,Z,g,ρ,s,R,r,h⟩:=hq;exact h _ (s.set i r)
inductive fh(X:Cx):List Expr->List Nat->Prop
 |nil:fh X [] []
 |cons {x:Str} {p:Pos} {i:Nat} {es:List Expr} {is:List Nat} (hi:X.N[i]?=some x) (hx:Loc X.env.scope x) (hf:X.fn x=true\/X.env.scope.names.lookup x=some .local) (r:fh X es is):fh X (.Name x p::es) (i::is)
def vf:List Nat->nZ
 |[]=>Cf
 |i::is=>CP (qq i) (vf is)
theorem Eg(hN:X.N.Nodup){es:List Expr}{is:List Nat}(h:fh X es is):tX X es (vf is):=by
 induction h with
 |nil=>exact Nu
 |cons hi hx hf r ih=>exact Xy (Gg hN hi hx hf) ih rfl
theorem M6:∀{es:List Expr} {is:List Nat},fh X es is->(assignEach es X.env).length=is.length/\(assignEach es X.env).findIdx? (·.1)=none
 |_,_,.nil=>⟨rfl,rfl⟩
 |_,_,.cons (x:=x) (p:=p) (es:=es) hi hx hf r=>by
  obtain⟨h1,h2⟩:=M6 r;have e:assignEach (.Name x p::es) X.env=(false,assign (.Name x p) X.env)::assignEach es X.env:=rfl;rw[e];refine⟨by simp[h1],?_⟩;rw[List.findIdx?_cons,h2]
  rfl
theorem DT{K:PySem.W.Frag}{ρ:List Addr}{H:Hp}{k:S->Prop}{Q:L2.St->Hp->Prop}:∀{is:List Nat} {l:List D} {vs:List V} {Z bL:S} {bE:L2.St},A8 is l Z=some bL->a4 K ρ H l vs->j8 K ρ H Z bE->(∀cE,j8 K ρ H bL cE->Q cE H)->vf is vs bE H Q
 |[],_,_,_,_,_,h,.nil,s,q=>by
  simp only[A8] at h;cases h;exact⟨rfl,q _ s⟩
 |[],_,_,_,_,_,h,.cons _ _,s,q=>by simp only[A8] at h;cases h
 |i::is,_,_,_,_,_,h,.nil,s,q=>by simp only[A8] at h;cases h
 |i::is,_,_,_,_,_,h,.cons r rr,s,q=>by
  simp only[A8] at h;exact⟨_,_,rfl,DT (k:=k) h rr (s.set i r) q⟩
theorem X4:∀{is:List Nat} {l:List D} {Z bL:S},A8 is l Z=some bL->l.length=is.length
 |[],[],_,_,_=>rfl
 |[],_::_,_,_,h=>by simp only[A8] at h;cases h
 |_::_,[],_,_,h=>by simp only[A8] at h;cases h
 |_::is,_::l,_,_,h=>by simp only[A8] at h;simp[X4 h]
theorem Gu{es:List Expr}{is:List Nat}{k:Nat}(hc:X.calm=true)(hN:X.N.Nodup)(hs:fh X es is):PG X (.Tuple es k pos) (LG X.K (.many is)) :=
 (Fw hc (Eg hN hs) (M6 hs).1 (M6 hs).2).imp λv bE H Q aS=>by
  obtain⟨d,Z,g,ρ,s,R,r,h⟩:=aS;obtain⟨l,bL,rfl,e,h⟩:=h;obtain⟨a',vs,rfl,ht,rs⟩:=r.v9;exact⟨_,_,rfl,ht.sq,by rw[<- rs.length];exact X4 e,DT (k:=λ_=>True) e rs s h⟩
theorem LN.ext{K ρ H N bA H1}(e:Ext ρ H bA H1):(LN K ρ H N).le (LN K bA H1 N) :=
 ⟨λZ g h bw H' cE e' R s=>h bw H' cE (e.trans e') R s,λd g h=>h.ext e,λZ g h bw H' cE e' R s=>h bw H' cE (e.trans e') R s,λZ g h bw H' cE e' R s=>h bw H' cE (e.trans e') R s⟩
section
variable{Ξ:gh}{P:eB}(hP:i6 P){a b c:Expr}{ma mb mc:ME}{st:Stmt}{rest:List Stmt}{wI lB:MS}
include hP
theorem FC:ij X [] (LS X.K Ξ (wpS P .pass)) :=
 (NB (X:=X)).imp λN bE H ⟨Z,g,ρ,s,R,h⟩=>h ρ H bE (.refl _ _) R s
theorem Gv(h1:PS X st (LS X.K Ξ (wpS P wI)))(h2:ij X rest (LS X.K Ξ (wpS P lB))):ij X (st::rest) (LS X.K Ξ (wpS P (.seq wI lB))) :=
 (XF h1 h2).imp λN bE H ⟨Z,g,ρ,s,R,h⟩ =>
  pN hP s R (.refl _ _) (show wpS P wI { LN X.K ρ H N with nx:=λgT g1=>wpS P lB (LN X.K ρ H N) gT g1 (LX X.K ρ H Ξ) } Z g (LX X.K ρ H Ξ) from h) ⟨λgT g1 h bA H1 GY e1 R1 s1=>pN hP s1 R1 e1 h (LN.ext e1),λ_ _ z=>z,λ_ _ z=>z,λ_ _ z=>z⟩
theorem Og(ha:PE X a (LE X.K Ξ (aP P ma)))(hs:swapsWith a none pos.line X.env=pure false):PS X (.Expr a pos) (LS X.K Ξ (wpS P (.expr ma))) :=
 (Ny ha hs).imp λN bE H ⟨Z,g,ρ,s,R,h⟩=>eh hP s R (.refl _ _) h λx g1 bA H1 v1 e1 R1 r1 h=>h bA H1 bE e1 R1 (s.ext e1)
theorem FE(h0:PS X (.Assign [.Name x p] a pos) (sP (LE X.K Ξ (aP P ma)) (qq i))):PS X (.Assign [.Name x p] a pos) (LS X.K Ξ (wpS P (.set i ma))) :=
 h0.imp λN bE H ⟨Z,g,ρ,s,R,h⟩=>eh hP s R (.refl _ _) h λx g1 bA H1 v1 e1 R1 r1 h=>h bA H1 _ e1 R1 ((s.ext e1).set i r1)
theorem LW(h0:PS X (.Assign [tg] a pos) (sP (LE X.K Ξ (aP P ma)) (LG X.K t))):PS X (.Assign [tg] a pos) (LS X.K Ξ (wpS P (.kM t ma))) :=
 h0.imp λN bE H ⟨Z,g,ρ,s,R,h⟩=>eh hP s R (.refl _ _) h λx g1 bA H1 v1 e1 R1 r1 h=>⟨x,Z,g1,bA,s.ext e1,R1,r1,y9 (λbL h cE s'=>h bA H1 cE e1 R1 s') h⟩
theorem Yg(hu:X.A.units+100<cLine){i:Expr}(ha:PE X a (LE X.K Ξ (aP P ma)))(ho:PE X o (LE X.K Ξ (aP P mo)))(hi:PE X i (LE X.K Ξ (aP P mi)))(hs:swapsWithSole [.Subscript o i tp] a pos.line X.env=pure false)(kE:∀ v,assign (.Subscript o i tp) X.env v=(do
   let ov <- holding [v] (eval o X.env)
   let iv <- holding [v,ov] (eval i X.env)
   standAt tp
   holding [v,ov,iv] (setItem ov iv v)
   release [v,ov,iv] [])):PS X (.Assign [.Subscript o i tp] a pos) (LS X.K Ξ (wpS P (.cF mo mi ma))) :=
 (Fx ha (KS ho hi (Ly hu) kE) hs).imp λN bE H ⟨Z,g,ρ,s,R,h⟩ =>
  eh hP s R (.refl _ _) h λx g1 bA H1 v1 e1 R1 r1 h=>eh hP (s.ext e1) R1 e1 h λy g2 dM H2 v2 e2 R2 r2 h=>eh hP (s.ext (e1.trans e2)) R2 (e1.trans e2) h λz g3 hW H3 v3 e3 R3 r3 h =>
   ⟨y,z,x,g3,hW,R3,r2.ext e3,r3,r1.ext (e2.trans e3),S0 (λg4 h kj H4 e4 R4=>h kj H4 bE (e1.trans (e2.trans (e3.trans e4))) R4 (s.ext (e1.trans (e2.trans (e3.trans e4))))) h⟩
omit hP in
def vb(K:PySem.W.Frag)(f:Str)(cs:List Str):Prop:=∀c C,c∈cs->k9 K c C->q8 K C f
omit hP in
theorem NW(hF:vb X.K f cs){ρ:List Addr}{H:Hp}{g g':G}{x v:D}{xv vv:V}(R:Rl X.K ρ g H)(rx:b6 X.K ρ H x xv)(rv:b6 X.K ρ H v vv)(h:De f cs x v g g') :
  ∃a C dx fs,xv=.ref a/\H a=some (.ins C dx fs)/\ik X.K C/\q8 X.K C f/\fs.length<1000/\Rl X.K ρ g' (upd H a (.ins C dx (n9 f vv fs)))/\Ext ρ H ρ (upd H a (.ins C dx (n9 f vv fs))):=by
 obtain⟨i,c,fs,rfl,hi,hc,hz,rfl⟩:=h;obtain⟨a',rfl,ra⟩:=rx.d8;obtain⟨C,dx,vs,hH,hC,gN,rk,na⟩:=R.ins hi ra;obtain⟨R',e'⟩:=R.put (o':=.ins c (u3 f v fs)) (u:=.ins C dx (n9 f vv vs)) hi rfl ra ⟨hC,gN,rk.n9 rv,X5 (p:=λy=>q8 X.K C y) (hF c C hc hC) na⟩;exact⟨a',C,dx,vs,rfl,hH,gN,hF c C hc hC,by rw[<- rk.length];omega,R',e'⟩
theorem Oh(hF:vb X.K f cs)(ho:PE X o (LE X.K Ξ (aP P mo)))(ha:PE X a (LE X.K Ξ (aP P ma)))(hs:swapsWith a (some (.Attribute o f tp)) pos.line X.env=pure false):PS X (.Assign [.Attribute o f tp] a pos) (LS X.K Ξ (wpS P (.fC f cs mo ma))) :=
 (KZ ho ha hs).imp λN bE H ⟨Z,g,ρ,s,R,h⟩=>eh hP s R (.refl _ _) h λx g1 bA H1 v1 e1 R1 r1 h=>eh hP (s.ext e1) R1 e1 h λy g2 dM H2 v2 e2 R2 r2 h=>by
  obtain⟨g3,h,q⟩:=h;obtain⟨a',C,dx,fs,hx,hH,gN,na,hz,R3,e3⟩:=NW hF R2 r2 (r1.ext e2) h;exact⟨a',C,dx,fs,hx,hH,gN,na,hz,q dM _ bE (e1.trans (e2.trans e3)) R3 (s.ext (e1.trans (e2.trans e3)))⟩
theorem Of{op:Operator}{p:Pr}(xi:(op=.Add/\p=.iadd)\/(op=.Sub/\p=.mS))(hN:X.N.Nodup)(hi:X.N[i]?=some x)(hx:Loc X.env.scope x)(hf:X.fn x=true\/X.env.scope.names.lookup x=some .local)(ha:PE X a (LE X.K Ξ (aP P ma))):PS X (.AugAssign (.Name x tp) op a pos) (LS X.K Ξ (wpS P (.jx i p ma))):=by
 have ho:GL X op (r2 X.K p):=by
  intro pins s Z H x y v u Q I rx ry h;obtain⟨d,e,g,ρ,R,rd,re,d',g',hr,q⟩:=h;rcases xi with⟨rfl,rfl⟩|⟨rfl,rfl⟩
  ·rcases hr with⟨i,j,ex,rfl,rfl⟩|⟨l,m,ex,hz,rfl,rfl⟩
   ·obtain⟨rfl,rfl⟩:=n5 ex;obtain rfl:=rd.f7;obtain rfl:=re.f7;exact MH pins s Z H _ _ v u Q I rx ry ⟨i,j,rfl,rfl,q.now R (.int _)⟩
   ·obtain⟨rfl,rfl⟩:=n5 ex;obtain⟨p1,wm,rfl,t1,mQ⟩:=rd.v9;obtain⟨p2,nu,rfl,t2,ly⟩:=re.v9;refine FT pins s Z H _ _ v u Q I rx ry (.inr ⟨p1,p2,wm,nu,rfl,rfl,t1.sq,t2.sq,by rw[<- mQ.length,<- ly.length];exact j6 hz,λz=>?_,λz=>?_,λp hp=>q.tup R hp (mQ.append ly)⟩)
    ·subst z;cases mQ;exact q.now R (.tup t2 ly)
    ·subst z;cases ly;rw[fk] at q;exact q.now R (.tup t1 mQ)
  ·obtain⟨i,j,ex,rfl,rfl⟩:=hr;obtain⟨rfl,rfl⟩:=n5 ex;obtain rfl:=rd.f7;obtain rfl:=re.f7;exact MI pins s Z H _ _ v u Q I rx ry ⟨i,j,rfl,rfl,q.now R (.int _)⟩
 refine(KY hN hi hx ha ho hf).imp λN bE H aS=>?_;obtain⟨Z,g,ρ,s,R,h⟩:=aS;obtain⟨xd,Ia,h⟩:=h;obtain⟨xv,hv,rx⟩:=s.val _ _ Ia;refine⟨xv,hv,eh hP s R (.refl _ _) h λz g1 bA H1 v1 e1 R1 r1 h=>?_⟩;refine⟨xd,z,g1,bA,R1,rx.ext e1,r1,l9 (λw g2 q=>?_) h⟩;exact λdM H2 v2 e2 R2 r2=>q dM H2 _ (e1.trans e2) R2 ((s.ext (e1.trans e2)).set i r2)
theorem Oe(hF:vb X.K f cs)(ho:PE X o (LE X.K Ξ (aP P mo)))(ha:PE X a (LE X.K Ξ (aP P ma))):PS X (.AugAssign (.Attribute o f tp) .Add a pos) (LS X.K Ξ (wpS P (.jy f cs mo ma))) :=
 (UD ho ha FT).imp λN bE H ⟨Z,g,ρ,s,R,h⟩=>eh hP s R (.refl _ _) h λy g1 bA H1 v1 e1 R1 r1 h=>by
  obtain⟨i,c,fs,x,rfl,hi,hc,hf,h⟩:=h;obtain⟨a',rfl,ra⟩:=r1.d8;obtain⟨C,dx,vs,hH,hC,gN,rk,na⟩:=R1.ins hi ra;have lk:=rk.look f;rw[hf] at lk;obtain⟨v,hv,rv⟩:=lk.some;refine⟨a',C,dx,vs,v,rfl,hH,gN,hF c C hc hC,hv,eh hP (s.ext e1) R1 e1 h λz g3 hW H3 v3 e3 R3 r3 h=>?_⟩;obtain⟨d',g',hR,ig,kB,hz,q⟩:=h;have fin:∀{kj:List Addr} {H4:Hp} {vv:V},Ext hW H3 kj H4->Rl X.K kj g' H4->b6 X.K kj H4 d' vv->∃pZ ig,H4 a'=some (.ins C pZ ig)/\ig.length<1000/\N.nx bE (upd H4 a' (.ins C pZ (n9 f vv ig))):=by
   intro kj H4 vv e4 R4 r4;obtain⟨C2,BV,nu,kc,xN,xB,AW,HG⟩:=R4.ins kB ((e3.trans e4).get ra);have:C2=C:=by have h1:=xN.symm.trans hC;cases h1;rfl
   subst this;obtain⟨R5,e5⟩:=R4.put (o':=.ins c (u3 f d' ig)) (u:=.ins C2 BV (n9 f vv nu)) kB rfl ((e3.trans e4).get ra) ⟨xN,xB,AW.n9 r4,X5 (p:=λy=>q8 X.K C2 y) (hF c C2 hc xN) HG⟩;exact⟨BV,nu,kc,by rw[<- AW.length];omega,q kj _ bE (e1.trans (e3.trans (e4.trans e5))) R5 (s.ext (e1.trans (e3.trans (e4.trans e5))))⟩
  rcases hR with⟨j,l,ex,rfl,rfl⟩|⟨l,m,ex,HX,rfl,rfl⟩
  ·obtain⟨rfl,rfl⟩:=n5 ex;obtain rfl:=rv.f7;obtain rfl:=r3.f7;exact .inl ⟨_,_,rfl,rfl,fin (.refl _ _) R3 (.int _)⟩
  ·obtain⟨rfl,rfl⟩:=n5 ex;obtain⟨p1,wm,rfl,t1,mQ⟩:=(rv.ext e3).v9;obtain⟨p2,nu,rfl,t2,ly⟩:=r3.v9;refine .inr ⟨p1,p2,wm,nu,rfl,rfl,t1.sq,t2.sq,by rw[<- mQ.length,<- ly.length];exact j6 HX,λz=>?_,λz=>?_,λp hp=>?_⟩
   ·subst z;cases mQ;exact fin (.refl _ _) R3 (.tup t2 ly)
   ·subst z;cases ly;rw[fk] at fin;exact fin (.refl _ _) R3 (.tup t1 mQ)
   ·exact fin (o8 hp) (R3.grow hp) (.tup (.inl f9) ((mQ.append ly).ext (o8 hp)))
theorem Sb{sa sb:List Stmt}{Bg msb:MS}(hc:PT X c (LT X.K Ξ (dq P mc)))(ha:ij X sa (LS X.K Ξ (wpS P Bg)))(hb:ij X sb (LS X.K Ξ (wpS P msb))):PS X (.If c sa sb pos) (LS X.K Ξ (wpS P (.ifs mc Bg msb))) :=
 (RK hc ha hb).imp λN bE H ⟨Z,g,ρ,s,R,h⟩=>nv hP s R (.refl _ _) h λt g1 bA H1 e1 R1 h=>by
  cases t
  ·exact pN hP (s.ext e1) R1 e1 h (LN.ext e1)
  ·exact pN hP (s.ext e1) R1 e1 h (LN.ext e1)
theorem FD(ha:PE X a (LE X.K Ξ (aP P ma))):PS X (.Return (some a) pos) (LS X.K Ξ (wpS P (.ret ma))) :=
 (Lc ha).imp λN bE H ⟨Z,g,ρ,s,R,h⟩=>⟨Z,g,ρ,s,R,h⟩
theorem Yh{body:List Stmt}{mb:MS}(hp:PassesOwn (model X.prog X.w) X.A X.env X.xe)(hc:PT X c (LT X.K Ξ (dq P mc)))(hb:ij X body (LS X.K Ξ (wpS P mb))):PS X (.While c body [] pos) (LS X.K Ξ (wpS P (.iO mc mb))) :=
 (XE hp hc hb).imp λN bE H aS=>by
  obtain⟨Z,g,ρ,s,R,h⟩:=aS;obtain⟨W,⟨m0,w0⟩,h⟩:=h;refine⟨λm cE H'=>∃bL g' bw,Ext ρ H bw H'/\j8 X.K bw H' bL cE/\Rl X.K bw g' H'/\W m bL g',⟨m0,Z,g,ρ,.refl _ _,s,R,w0⟩,?_⟩;rintro m cE H' ⟨bL,g',bw,e1,s',R',w'⟩;refine nv hP s' R' e1 (h m bL g' w') λt g1 bA H1 e2 R1 q=>?_;cases t
  ·exact q bA H1 cE (e1.trans e2) R1 (s'.ext e2)
  ·obtain⟨N2,xJ,q⟩:=q;refine⟨λjm H2=>∃cj g2 dM,Ext ρ H dM H2/\j8 X.K dM H2 cj jm/\Rl X.K dM g2 H2/\N2 cj g2,?_,?_⟩
   ·rintro jm H2 ⟨cj,g2,dM,e3,s2,R2,n2⟩;obtain⟨m',hm,w2⟩:=xJ cj g2 n2;exact⟨m',hm,cj,g2,dM,e3,s2,R2,w2⟩
   ·refine pN hP (s'.ext e2) R1 (e1.trans e2) q ⟨?_,?_,?_,?_⟩
    ·exact λgA g3 n3 hW H3 jJ e3 R3 s3=>⟨gA,g3,hW,(e1.trans e2).trans e3,s3,R3,n3⟩
    ·exact λd g3 h=>h.ext (e1.trans e2)
    ·exact λgA g3 h hW H3 jJ e3 R3 s3=>h hW H3 jJ ((e1.trans e2).trans e3) R3 s3
    ·exact λgA g3 n3 hW H3 jJ e3 R3 s3=>⟨gA,g3,hW,(e1.trans e2).trans e3,s3,R3,n3⟩
theorem LR{iter:Expr}{body:List Stmt}{mb:MS}(hp:PassesOwn (model X.prog X.w) X.A X.env X.xe)(hc:X.calm=true)(hi:PI X tg iter (LI X.K Ξ (hX P mi)))(hg:PG X tg (LG X.K t))(hb:ij X body (LS X.K Ξ (wpS P mb)))(hs:∀x,foldedSetIterable iter X.env x=pure x):PS X (.For tg iter body [] pos) (LS X.K Ξ (wpS P (.eA t mi mb))) :=
 (La hp hc hi hg hb hs).imp λN bE H aS=>by
  obtain⟨Z,g,ρ,s,R,h⟩:=aS;refine⟨Z,g,ρ,s,R,v5 hP mi _ _ _ _ _ _ (λk g1 h bA H1 J e1 R1 j1=>?_) (λ_ _ z=>z) h⟩;obtain⟨W,⟨m0,w0⟩,h⟩:=h;refine⟨λi m cE H'=>∃bL g' bw,Ext bA H1 bw H'/\j8 X.K bw H' bL cE/\Rl X.K bw g' H'/\W i m bL g',⟨m0,Z,g1,bA,.refl _ _,s.ext e1,R1,w0⟩,?_⟩;rintro i m cE H' ⟨bL,g',bw,e',s',R',w'⟩;obtain⟨rg,rf⟩:=j1 bw g' H' e' R' i;rcases h i m bL g' w' with⟨ek,q⟩|⟨x,ek,N2,xJ,q⟩
  ·exact .inl ⟨rg ek,q bw H' cE (e1.trans e') R' s'⟩
  ·obtain⟨go,yl⟩:=rf x ek;refine .inr ⟨go,λjm H2=>∃cj g2 dM,Ext bA H1 dM H2/\j8 X.K dM H2 cj jm/\Rl X.K dM g2 H2/\N2 cj g2,?_,?_⟩
   ·rintro jm H2 ⟨cj,g2,dM,e2,s2,R2,n2⟩;obtain⟨m',hm,w2⟩:=xJ cj g2 n2;exact⟨m',hm,cj,g2,dM,e2,s2,R2,w2⟩
   ·intro v H2 y;obtain⟨e2,R2,r2⟩:=yl v H2 y;refine⟨x,bL,g',bw,s'.ext e2,R2,r2,y9 (λcj q jm s2=>?_) q⟩;refine pN hP s2 R2 (e1.trans (e'.trans e2)) q ⟨?_,?_,?_,?_⟩
    ·exact λgA g3 n3 hW H3 jJ e3 R3 s3=>⟨gA,g3,hW,(e'.trans e2).trans e3,s3,R3,n3⟩
    ·exact λd g3 h=>h.ext (e1.trans (e'.trans e2))
    ·exact λgA g3 h hW H3 jJ e3 R3 s3=>h hW H3 jJ (e1.trans ((e'.trans e2).trans e3)) R3 s3
    ·exact λgA g3 n3 hW H3 jJ e3 R3 s3=>⟨gA,g3,hW,(e'.trans e2).trans e3,s3,R3,n3⟩
theorem GA{a9:List Nat}{n:Nat}{ia me:ME}:∀bE H Q,LE X.K Ξ (aP P (.comp a9 n t mi ia me)) bE H Q->zO (LI X.K Ξ (hX P mi)) a9 n (LG X.K t) (LT X.K (mB Ξ.1) (dq P ia)) (LE X.K (mB Ξ.1) (aP P me)) bE H Q:=λbE H Q aS=>by
 obtain⟨Z,g,ρ,s,R,h⟩:=aS;refine⟨Z,g,ρ,s,R,v5 hP mi _ _ _ _ _ _ (λk g1 h bA H1 J e1 R1 j1=>?_) (λ_ _ z=>z) h⟩;obtain⟨W,⟨m0,w0⟩,h⟩:=h;refine⟨λi m AG cE H'=>∃ys bL g' bw,Ext bA H1 bw H'/\j8 X.K bw H' bL cE/\Rl X.K bw g' H'/\a4 X.K bw H' ys AG/\W i m ys bL g',⟨m0,[],_,g1,bA,.refl _ _,(s.ext e1).a9 a9 n,R1,.nil,w0⟩,?_⟩;rintro i m AG cE H' ⟨ys,bL,g',bw,e',s',R',ry,w'⟩;obtain⟨rg,rf⟩:=j1 bw g' H' e' R' i;rcases h i m ys bL g' w' with⟨ek,q⟩|⟨x,ek,hz,q⟩
 ·exact .inl ⟨rg ek,λp hp=>(q.ext (e1.trans e')).new R' hp ry⟩
 ·obtain⟨go,yl⟩:=rf x ek;refine .inr ⟨go,by rw[<- ry.length];exact yS hz,λv H2 y=>?_⟩;obtain⟨e2,R2,r2⟩:=yl v H2 y;refine⟨x,bL,g',bw,s'.ext e2,R2,r2,y9 (λcj q jm s2=>?_) q⟩;refine⟨cj,g',bw,s2,R2,m8 hP ia _ _ _ _ _ _ (λb g3 q hW H3 e3 R3=>?_) (λ_ _ z=>z.elim) q⟩;cases b
  ·obtain⟨m',hm,w3⟩:=q;exact⟨m',hm,ys,cj,g3,hW,(e'.trans e2).trans e3,s2.ext e3,R3,(ry.ext e2).ext e3,by simpa using w3⟩
  ·refine⟨cj,g3,hW,s2.ext e3,R3,a6 hP me _ _ _ _ _ _ (λz g4 q kj H4 v4 e4 R4 r4=>?_) (λ_ _ z=>z.elim) q⟩;obtain⟨m',hm,w4⟩:=q;exact⟨m',hm,ys++[z],cj,g4,kj,(e'.trans e2).trans (e3.trans e4),(s2.ext e3).ext e4,R4,(((ry.ext e2).ext e3).ext e4).append (.cons r4 .nil),by simpa using w4⟩
theorem XW{elt iter:Expr}{ifs:List Expr}{scope:Scope}{N':List Str}{a9:List Nat}{cl:List (Str×Addr)}{p2 iR:Pos}{ia me:ME}(S:cx X scope N' a9 cl)(hc:X.calm=true)(hi:PI X tg iter (LI X.K Ξ (hX P mi)))(hg:∀pins C s H fp,PG (a5 X pins scope N' cl C s H fp) tg (LG X.K t))(ht:∀pins C s H fp,jf (a5 X pins scope N' cl C s H fp) ifs (LT X.K (mB Ξ.1) (dq P ia)))(he:∀pins C s H fp,PE (a5 X pins scope N' cl C s H fp) elt (LE X.K (mB Ξ.1) (aP P me)))(hs:∀x,foldedSetIterable iter X.env x=pure x)(lL:Gl X "sorted")(mX:X.mg "sorted"=none):PE X (.Call (.Name "sorted" p2) [.SetComp elt [⟨tg,iter,ifs,0⟩] scope pos] [] iR) (LE X.K Ξ (aP P (.gG a9 N'.length t mi ia me))) :=
 (X6 (T4 hc) lL mX (by first|exact gc|decide +kernel) (O7 (Xx S hc hi hg ht he hs) U5)).imp λbE H Q aS=>by
  obtain⟨Z,g,ρ,s,R,h⟩:=aS;refine⟨Z,g,ρ,s,R,v5 hP mi _ _ _ _ _ _ (λk g1 h bA H1 J e1 R1 j1=>?_) (λ_ _ z=>z) h⟩;obtain⟨W,⟨m0,w0⟩,h⟩:=h;refine⟨λi m ys cE H'=>∃bL g' bw,Ext bA H1 bw H'/\j8 X.K bw H' bL cE/\Rl X.K bw g' H'/\W i m ys bL g',⟨m0,_,g1,bA,.refl _ _,(s.ext e1).a9 a9 _,R1,w0⟩,?_⟩;rintro i m ys cE H' ⟨bL,g',bw,e',s',R',w'⟩;obtain⟨rg,rf⟩:=j1 bw g' H' e' R' i;rcases h i m ys bL g' w' with⟨ek,hz,q⟩|⟨x,ek,hz,q⟩
  ·exact .inl ⟨rg ek,λp hp=>⟨p,ys,rfl,f9,by omega,λp' fz=>(q.ext ((e1.trans e').trans (o8 hp))).new (R'.grow hp) fz (a4.ofInts _)⟩⟩
  ·obtain⟨go,yl⟩:=rf x ek;refine .inr ⟨go,hz,λv H2 y=>?_⟩;obtain⟨e2,R2,r2⟩:=yl v H2 y;refine⟨x,bL,g',bw,s'.ext e2,R2,r2,y9 (λcj q jm s2=>?_) q⟩;refine⟨cj,g',bw,s2,R2,m8 hP ia _ _ _ _ _ _ (λb g3 q hW H3 e3 R3=>?_) (λ_ _ z=>z.elim) q⟩;cases b
   ·obtain⟨m',hm,w3⟩:=q;exact⟨m',hm,cj,g3,hW,(e'.trans e2).trans e3,s2.ext e3,R3,by simpa using w3⟩
   ·refine⟨cj,g3,hW,s2.ext e3,R3,a6 hP me _ _ _ _ _ _ (λz g4 q kj H4 v4 e4 R4 r4=>?_) (λ_ _ z=>z.elim) q⟩;obtain⟨j,rfl,m',hm,w4⟩:=q;obtain rfl:=r4.f7;exact⟨j,rfl,m',hm,cj,g4,kj,(e'.trans e2).trans (e3.trans e4),(s2.ext e3).ext e4,R4,by simpa using w4⟩
end
end M
namespace M
open PySem L2
section
variable{X:Cx}{Ξ:gh}{P:eB}{o:Expr}{mo:ME}{pos:Pos}(hP:i6 P)
include hP
theorem NL{kx vx:Expr}{elts ifs:List Expr}{x1 j:Nat}{tp apos ip:Pos}{scope:Scope}{N':List Str}{cl:List (Str×Addr)}(S:cx X scope N' [j] cl)(h3:N'.length=4)(hc:X.calm=true)(ho:PE X o (LE X.K Ξ (aP P mo)))(hb:attributeBase o "items" X.env (eval o X.env)=eval o X.env)(hl:(apos.endLine==ip.line)=true)(hg:∀pins C s H fp,PG (a5 X pins scope N' cl C s H fp) (.Tuple elts x1 tp) (Cg X.K 2 (vf [2,3])))(ht:∀pins C s H fp,jf (a5 X pins scope N' cl C s H fp) ifs (tD (nz (wz X.K true) (nY 0) (nY 3))))(hk:∀pins C s H fp,PE (a5 X pins scope N' cl C s H fp) kx (nY 2))(hv:∀pins C s H fp,PE (a5 X pins scope N' cl C s H fp) vx (nY 3)) :
  PE X (.DictComp kx vx [⟨.Tuple elts x1 tp,.Call (.Attribute o "items" apos) [] [] ip,ifs,0⟩] scope pos) (LE X.K Ξ (aP P (.prim .lU (.cons mo (.cons (.var j) .nil))))) :=
 Nr (Xr S hc (Xz ho hb hl) hg ht hk hv λ_=>rfl) λbE H Q aS=>by
  obtain⟨Z,g,ρ,s,R,h⟩:=aS;refine⟨Z,g,ρ,s,R,a6 hP mo _ _ _ _ _ _ (λx g1 h bA H1 v1 e1 R1 r1=>?_) (λ_ _ z=>z) h⟩;obtain⟨d,dj,d',g',⟨a',n,fs,ex,IA,hl,nd,rfl,rfl⟩,q⟩:=h;obtain⟨rfl,rfl⟩:=n5 ex;obtain⟨a,rfl,ra⟩:=r1.d8;obtain⟨vs,ha,kr⟩:=R1.bN IA ra;obtain⟨w,hw,eE⟩:=(s.ext e1).val j _ dj;obtain rfl:=eE.f7;have vl:vs.length=fs.length:=by rw[<- kr.length,ay]
  refine⟨a,vs,rfl,ha,λφ wU=>⟨λi m ys cE H'=>m+i=fs.length/\(∃y0 y1 y2,cE=[some (.int n),y0,y1,y2])/\(∀b u,upd H1 a (.ext φ) b=some u->H' b=some u)/\d6 X.K bA H1 (((fs.take i).filter (T2 n)).map iy) ys,⟨fs.length,by simp,⟨none,none,none,?_⟩,λ_ _ z=>z,by simpa using d6.nil⟩,?_⟩⟩
  ·rw[h3];unfold o7;simp[hw]
  rintro i m ys cE H' ⟨hm,⟨y0,y1,y2,rfl⟩,up,ky⟩;have rZ:H' a=some (.ext φ):=up _ _ f9;have tp:∀b xs,H1 b=some (.tup xs)->H' b=some (.tup xs):=λb xs z=>up _ _ (by rw[a7];exact z;intro e;rw[e,ha] at z;cases z);cases m with
  |zero =>
   have hi:i=fs.length:=by omega
   subst hi;rw[ki] at ky;refine .inl ⟨⟨rZ,by omega⟩,λp hp=>⟨a,φ,vs,?_,wU,?_⟩⟩
   ·rw[a7 (d4 rZ hp)];exact rZ
   have Bq:a≠p:=d4 rZ hp;have sw:upd (upd H' p (.dK ys)) a (.dK vs)=upd (upd H' a (.dK vs)) p (.dK ys):=funext λb=>by
    by_cases h1:b=a
    ·rw[h1,f9,a7 Bq,f9]
    ·rw[a7 h1];by_cases h2:b=p
     ·rw[h2,f9,f9]
     ·rw[a7 h2,a7 h2,a7 h1]
   rw[sw];have sup:∀b u,H1 b=some u->upd H' a (.dK vs) b=some u:=λb u z=>by
    by_cases h1:b=a
    ·rw[h1,f9,<- ha,<- h1];exact z
    ·rw[a7 h1];exact up _ _ (by rw[a7 h1];exact z)
   have x1:Ext bA H1 bA (upd H' a (.dK vs)):=⟨⟨[],by simp⟩,λb xs z=>sup _ _ z⟩
   have nF:upd H' a (.dK vs) p=none:=by rw[a7 Bq.symm];exact hp
   exact q (bA++[p]) _ _ (e1.trans (x1.trans (t8 nF))) ((R1.sup sup).new nF (o:=.bN _) (u:=.dK ys) (ky.ext x1)) (.ref (R1.m9 p))
  |succ m =>
   have hi:i<fs.length:=by omega
   have yl:ys.length<=i:=by
    rw[<- ky.length,ay];exact aI (hV _ _) (by rw[cg];exact Nat.min_le_left _ _)
   refine .inr ⟨⟨rZ,by omega⟩,by omega,?_⟩;rintro x H2 ⟨p,k,x,hp,rfl,hx,rfl⟩;obtain⟨⟨k',n1,n2⟩,hf⟩:∃f,fs[i]?=some f:=⟨_,az hi⟩
   obtain⟨v,Bo,rv⟩:=kr.get (i:=i) (k:=k') (d:=.tup [.int n1,.int n2]) (by rw[aF,hf];rfl);rw[hx] at Bo;obtain⟨rfl,rfl⟩:=vW (aB Bo);obtain⟨q',ws,rfl,tq,rs⟩:=rv.v9;obtain rfl:=a4.ints (ns:=[n1,n2]) rs;have x2:Ext bA H1 bA (upd H' p (.tup [kV k,.ref q'])):=⟨⟨[],by simp⟩,λb xs z=>by rw[a7 (d4 (tp b xs z) hp)];exact tp b xs z⟩
   have AM:∀b u,upd H1 a (.ext φ) b=some u->upd H' p (.tup [kV k,.ref q']) b=some u:=λb u z=>by rw[a7 (d4 (up b u z) hp)];exact up b u z
   have tk:fs.take (i+1)=fs.take i++[(k,n1,n2)]:=by rw[fH,hf];rfl
   refine⟨p,_,rfl,TupAt.sq (.inl f9),rfl,_,_,rfl,_,_,rfl,rfl,?_⟩;refine⟨.int n,rfl,.ref q',rfl,q',_,rfl,.inr (tq.ext x2).sq,rfl,rfl,_,rfl,?_⟩;have hk:(!uz (.int n) ([n1,n2].map V.int))=T2 n (k,n1,n2):=by simp[uz,kF,T2,Bool.beq_eq_decide_eq]
   rw[aK rfl,hk];cases hz:T2 n (k,n1,n2) with
   |false =>
    refine⟨m,by omega,by omega,⟨_,_,_,rfl⟩,AM,?_⟩;rw[tk,dc,cX,hz];simpa using ky
   |true =>
    refine⟨kV k,rfl,k,rfl,.ref q',rfl,m,by omega,by omega,⟨_,_,_,rfl⟩,AM,?_⟩;rw[tk,dc,cX,hz];have:=ky.put (k:=k) rv;have np:((((fs.take i).filter (T2 n)).map iy).any λkv=>decide (kv.1=k))=false:=by
     rw[YC];intro y hy e;obtain⟨f,ID,rfl⟩:=aC.mp hy;have rR:=(cy.mp ID).1;have e:f.1=k:=aQ e;obtain⟨i',kB,e'⟩:=iL rR;have l1:i'<i:=by rw[cg] at kB;omega
     have HF:=fQ.mp nd i' i (by simp;omega) (by simpa using hi) l1;apply HF;rw[jI] at e';have IB:fs[i]=(k,n1,n2):=by rw[az hi] at hf;exact aB hf
     simp[e',IB,e]
    rw[putD,aD (by rw[np];decide)] at this;simpa[iy] using this
end
end M
namespace M
open PySem L2 PySem.Spec PyProof.Rows
variable{X:Cx}{Ξ:gh}{P:eB}{x qual:Str}{pos px:Pos}{c:c8}{i n:Nat}{e o b a:Expr}{es args:List Expr}{env:Env}{p:Pr}{f:Addr}{sc scope:Scope}{r:CF}{m:ME}{cd:Value}{N:List Str}{A:Around}{outer:List Env}{s:Shared}{H:Hp}{E:XK}
section
variable(hP:i6 P)
include hP
theorem Yf{C:Addr}{B newId fS:String}{bm:List Value}{np dy:Pos}{iX:Expr}{rest:List Expr}{fG:ME}(hc:X.calm=true)(O:OwnCls x C bm newId X.mg X.base)(FB:ExcBaseFacts B newId fS bm)(hg:Gl X x)(ha:PA X (iX::rest) (LA X.K Ξ (eN P fG)))(hr:vo X Ξ.2)(hx:x∈Ξ.1)(hC:k9 X.K x C)(he:starEach (iX::rest) X.env=(false,eval iX X.env)::starEach rest X.env)(dR:(backTo dy (starEach rest X.env)).any (·.1)=false)(hd:(x==("__debug__":Str))=false):PS X (.Raise (some (.Call (.Name x np) (iX::rest) [] dy)) none pos) (LS X.K Ξ (wpS P (.raise x fG))) :=
 (XD hc O FB hg ha hr he dR hd).imp λN bE H aS=>by
  obtain⟨Z,g,ρ,s,R,h⟩:=aS;refine iD hP s R (.refl _ _) h λds g1 bA H1 vs e1 R1 r1 h=>?_;exact⟨by rw[<- r1.length];exact j6 (aI h.1 (by decide)),h.2 bA H1 C e1 R1 hx hC⟩
def vR(X:Cx)(ex:List Str)(D:L2.Ends)(hs:List ExceptHandler):gh:=(ex,λv _ H=>∃C,v=.ref C/\Z5 X D C H hs)
inductive kI(X:Cx)(Ξ:gh)(P:eB):List ExceptHandler->List (Str×ME)->Prop
 |nil (hh:tE X Ξ.2):kI X Ξ P [] []
 |cons {y:Str} {C':Addr} {p p1 p2:Pos} {e:Expr} {me:ME} {hs:List ExceptHandler} {ms:List (Str×ME)} (hg:Gl X y) (hd:(y==("__debug__":Str))=false) (hm:X.mg y=some (.ref C'))
   (hx:∀x C,x∈Ξ.1->k9 X.K x C->PySem.W.exmOne X.K (.ref C) (.ref C')=some (decide (x=y\/y="MintError"))) (he:∀ea,PE (A9 X ea) e (LE X.K (mB Ξ.1) (aP P me))) (r:kI X Ξ P hs ms) :
   kI X Ξ P (.ExceptHandler (some (.Name y p)) none [.Return (some e) p1] p2::hs) ((y,me)::ms)
theorem DE{N:L2.Ends}{ρ bw:List Addr}{H H':Hp}{Z:S}{g:G}{x:Xn}{C:Addr}(hl:Z.length=X.N.length)(e:Ext ρ H bw H')(R:Rl X.K bw g H')(hx:x.cls∈Ξ.1)(hC:k9 X.K x.cls C) :
  ∀{hs:List ExceptHandler} {ms:List (Str×ME)},kI X Ξ P hs ms->kl P (LN X.K ρ H N) (Z.map λ_=>none) (LX X.K ρ H Ξ) ms x g->Z5 X N C H' hs
 |_,_,.nil hh,q=>⟨Ξ.2,hh,q bw H' C e R hx hC⟩
 |_,_,.cons (me:=me) hg hd hm HZ he r,q=>by
  refine⟨hg,hd,_,_,hm,HZ _ _ hx hC,?_⟩;unfold kl at q;split at q
  ·rename_i ex;rw[aK (by simpa using ex)];refine⟨LS X.K (mB Ξ.1) (wpS P (.seq (.ret me) .pass)),λea=>Gv (X:=A9 X ea) (Ξ:=mB Ξ.1) hP (FD (X:=A9 X ea) hP (he ea)) (FC (X:=A9 X ea) hP),?_⟩;refine⟨Z.map λ_=>none,g,bw,⟨by simp[hl],λi d z=>?_⟩,R,?_⟩
   ·rw[aF] at z;cases e:Z[i]? with
    |none=>rw[e] at z;cases z
    |some y=>rw[e] at z;cases z
   ·skip
    refine a6 hP me _ _ _ _ _ _ (λd g1 h=>?_) (λ_ _ z=>z.elim) q;exact h.ext e
  ·rename_i ex;rw[aD (by simpa using ex)];exact DE hl e R hx hC r q
theorem LV{h₀:ExceptHandler}{hs:List ExceptHandler}{ms:List (Str×ME)}{body:List Stmt}{mb:MS}(ei:X.stack=X.env::X.outer)(hf:X.env.frame=some X.env.locals)(hb:∀pins D,ij (R9 X pins (qu X pins D (h₀::hs))) body (LS X.K (vR X Ξ.1 D (h₀::hs)) (wpS P mb)))(hh:kI X Ξ P (h₀::hs) ms):PS X (.Try body (h₀::hs) [] [] pos) (LS X.K Ξ (wpS P (.T7 mb ms))):=by
 intro pins s bE H N I ⟨Z,g,ρ,sr,R,h⟩;refine Ld (t:=λD=>LS X.K (vR X Ξ.1 D (h₀::hs)) (wpS P mb)) (Ξ:=λD=>(vR X Ξ.1 D (h₀::hs)).2) ei hf (λpins D _=>hb pins D) pins s bE H N I ⟨λC H' ⟨C',e,z⟩=>by cases e;exact z,?_⟩;refine⟨Z,g,ρ,sr,R,wpS_mono hP mb _ _ _ _ _ _ ⟨λ_ _ z=>z,λ_ _ z=>z,λ_ _ z=>z,λ_ _ z=>z⟩ (λx g1 q bw H' C e' R' hm hc=>⟨C,rfl,?_⟩) h⟩;exact DE (Ξ:=Ξ) hP (sr.len.trans I.len) e' R' hm hc hh q
end
structure c8 where
 N:List Str
 nm:List (Str×NameKind)
 kT:Bool
 fns:List (Str×Nat)
 con:List (Str×D)
 blt:List Str
 exc:List Str
 gd:List (Str×List D)
 cls:List (Str×Nat)
 mh:List (Str×Str×Nat)
 mx:List (Str×Str)
 iQ:Bool
 iu:Bool
def fo:Expr->Bool
 |.Set ..=>false
 |.Starred ..=>false
 |.Slice ..=>false
 |_=>true
def t6:Expr->Bool
 |.ListComp ..=>false
 |.SetComp ..=>false
 |.DictComp ..=>false
 |_=>true
def CY:Expr->Bool
 |.Name ..=>false
 |_=>true
def qr:Expr->Bool
 |.Tuple ..=>false
 |_=>true
def zw:Expr->Bool
 |.Name ..=>true
 |.Call ..=>true
 |.Subscript ..=>true
 |.Constant ..=>true
 |.Attribute ..=>true
 |.BinOp ..=>true
 |_=>false
def U7:Expr->Bool
 |.Call (.Name ..) ..=>false
 |_=>true
def c8.idx(c:c8)(x:Str):Option Nat:=c.N.findIdx? λy=>decide (y=x)
def c8.oq(c:c8)(x:Str):Bool:=match c.nm.lookup x with
 |some .local=>true
 |some .cell=>true
 |some .free=>true
 |_=>false
def c8.gl(c:c8)(x:Str):Bool:=decide (c.nm.lookup x=some .globalImplicit)
def c8.t4(c:c8)(x:Str):Bool:=decide (c.nm.lookup x=some .local)||decide (c.nm.lookup x=some .cell)
def P8(x:Str):Bool:=(x==("__debug__":Str))==false&&(x==("__classdict__":Str))==false&&decide (x≠"__name__")
def zP:List (Str×String):=[("int","int"),("bool","bool"),("str","str"),("tuple","tuple"),("list","list")]
def zV:List (Str×Pr):=[("len",.len),("list",.list),("tuple",.tuple),("isinstance",.isin),("all",.all),("max",.max),("int",.int),("sorted",.eK),("sum",.sum),("set",.oE)]
def U9:List (Str×Pr):=[("clear",.clear),("pop",.oB)]
def Ac:List (Str×Pr):=[("append",.append),("pop",.pop),("add",.kq)]
def vp:Expr->Option (Str×List Expr)
 |.Call (.Name x _) args [] _=>some (x,args)
 |_=>none
def CH:Expr->Bool
 |.Tuple ..=>true
 |_=>false
def asName:Expr->Option Str
 |.Name x _=>some x
 |_=>none
def frees(sc:Scope):List Str:=(sc.names.filter λy=>decide (y.2=.free)).map (·.1)
def locals(sc:Scope):List Str:=(sc.names.filter λy=>decide (y.2=.local)||decide (y.2=.cell)).map (·.1)
def c8.inner(c:c8)(sc:Scope):c8:={ c with N:=frees sc++locals sc,nm:=sc.names,kT:=false,iQ:=false,iu:=false }
def c8.a9(c:c8)(sc:Scope):List Nat:=(frees sc).map λx=>(c.idx x).getD 0
def c8.vI(c:c8)(sc:Scope):Bool :=
 decide (sc.kind=.function)&&sc.names.all (λy=>!decide (y.2=.cell)||decide (sc.names.lookup y.1=some .cell))&&sc.names.all (λy=>!decide (y.2=.local)||decide (sc.names.lookup y.1=some .local)) &&
 decide (frees sc++locals sc).Nodup&&(frees sc).all (λx=>(c.idx x).isSome&&decide (sc.names.lookup x=some .free)&&(decide (c.nm.lookup x=some .cell)||decide (c.nm.lookup x=some .free)))
def c8.slot(c:c8)(e:Expr):Option Nat:=(asName e).bind λx=>if c.t4 x then c.idx x else none
def c8.slots(c:c8):List Expr->Option (List Nat)
 |[]=>some []
 |e::r=>(c.slot e).bind λi=>(c.slots r).map λis=>i::is
def c8.tg(c:c8)(e:Expr):Option MT:=((c.slot e).map .one).orElse λ_=>match e with
 |.Tuple es _ _=>(c.slots es).map .many
 |_=>none
def Z2:Const->Option D
 |.int i=>some (.int i)
 |.bool b=>some (.bl b)
 |.none=>some .bc
 |.str x=>some (.str x)
 |_=>none
structure CF where
 e:c8->Expr->Option ME
 t:c8->Expr->Option ME
 s:c8->Stmt->Option MS
section
variable(r:CF)(c:c8)
def c1(p:Pr)(a:Expr):Option ME:=(r.e c a).map λm=>.prim p (.cons m .nil)
def c2(p:Pr)(a b:Expr):Option ME:=(r.e c a).bind λma=>(r.e c b).map λmb=>.prim p (.cons ma (.cons mb .nil))
def E9:List Expr->Option ME
 |[]=>some .nil
 |e::es=>if fo e then(r.e c e).bind λm=>(E9 es).map λms=>.cons m ms else none
def Fi:Expr->Option Str
 |.Constant (.str x) _ _=>some x
 |_=>none
def Ds:Expr->Option Expr
 |.FormattedValue e k none _=>if k=-1 then some e else none
 |_=>none
def qm:List Expr->Option ME
 |[]=>some .nil
 |e::es=>((Fi e).bind λx=>if x.length<=2000 then(qm es).map λms=>.cons (.lit (.str x)) ms else none).orElse λ_ =>
   (Ds e).bind λa=>(r.e c a).bind λm=>(qm es).map λms=>.cons (.prim .fv (.cons m .nil)) ms
def sU:List (Option Expr)->List Expr->Option ME
 |[],[]=>some .nil
 |some k::ks,v::vs=>(r.e c k).bind λmk=>(r.e c v).bind λmv=>(sU ks vs).map λms=>.cons mk (.cons mv ms)
 |_,_=>none
def uR(op:BoolOp):List Expr->Option ME
 |[]=>none
 |[a]=>r.e c a
 |a::b::rs=>(r.e c a).bind λma=>(uR op (b::rs)).map λmb=>match op with
  |.And=>.de ma mb
  |.Or=>.gp ma mb
def uS(op:BoolOp):List Expr->Option ME
 |[]=>none
 |[a]=>r.t c a
 |a::b::rs=>(r.t c a).bind λma=>(uS op (b::rs)).map λmb=>match op with
  |.And=>.de ma mb
  |.Or=>.gp ma mb
def Fj:List Expr->Option ME
 |[]=>some .no
 |[e]=>r.t c e
 |_=>none
def n6:List Stmt->Option MS
 |[]=>some .pass
 |s::rs=>(r.s c s).bind λm=>(n6 rs).map λms=>.seq m ms
def zS(x:Str):Option ME :=
 if P8 x then(if c.oq x then(c.idx x).map .var else if c.gl x then((c.con.lookup x).map .lit).orElse λ_=>if c.blt.contains x then(zP.lookup x).map λt=>.lit (.ty t) else none else none) else none
def wb(op:UnaryOp)(a:Expr):Option ME:=if op=.Not then(r.e c a).map .cG else c1 r c (.un op) a
def c8.vN(b:Expr):Option (List D):=(asName b).bind λx=>if c.gl x&&P8 x then c.gd.lookup x else none
def OS:CmpOp->Option Bool
 |.In=>some false
 |.NotIn=>some true
 |_=>none
def sR(a:Expr)(ops:List CmpOp)(bs:List Expr):Option ME:=match ops,bs with
 |[op],[b]=>if behindInMarks op b then none else((OS op).bind λneg=>(c.vN b).bind λkvs=>(r.e c a).map λma=>.prim (uU neg) (.cons (.lit (.tup kvs)) (.cons ma .nil))).orElse λ_=>c2 r c (.cmp op) a b
 |[op,gI],[b,d]=>if lastMarks [op,gI] [b,d] then none else(r.e c a).bind λma=>(r.e c b).bind λmb=>(r.e c d).map λmd=>.chain op gI ma mb md
 |_,_=>none
def OB:Expr->Option (Option Expr×Option Expr×Option Expr)
 |.Slice lo hi st _=>some (lo,hi,st)
 |_=>none
def AH(a:Expr):Option Expr->Option Expr->Option Expr->Option ME
 |none,none,none=>c1 r c (.lx false false) a
 |some b,none,none=>c2 r c (.lx true false) a b
 |none,some b,none=>c2 r c (.lx false true) a b
 |_,_,_=>none
def zz(a b:Expr):Option ME:=((OB b).bind λq=>AH r c a q.1 q.2.1 q.2.2).orElse λ_=>if fo b then((c.vN a).bind λkvs=>(r.e c b).map λmb=>.prim .nc (.cons (.lit (.tup kvs)) (.cons mb .nil))).orElse λ_=>c2 r c .ix a b else none
def wc(x:Str)(e:Expr):Option ME:=(vp e).bind λq =>
 if x="list" && q.1="range" && c.blt.contains "list" && c.blt.contains "range" && c.gl "range" then (match q.2 with
  |[a]=>if fo a then c1 r c .lD a else none
  |[a,b]=>if fo a&&fo b then c2 r c .lC a b else none
  | _=>none)
 else if x="sorted" && q.1="set" && c.blt.contains "sorted" && c.blt.contains "set" && c.gl "set" then (match q.2 with
  |[a]=>if fo a then c1 r c .sset a else none
  | _=>none)
 else if x="len" && q.1="set" && c.blt.contains "len" && c.blt.contains "set" && c.gl "set" then (match q.2 with
  |[a]=>if fo a then c1 r c .U0 a else none
  | _=>none)
 else none
def Qs(x:Str)(e:Expr):List Expr->Option ME
 |[]=>wc r c x e
 |_=>none
def yE(x:Str):Option ME:=if P8 x&&c.gl x then((c.fns.lookup x).map λf=>.call f .nil).orElse λ_=>(c.cls.lookup x).map λf=>.make x f .nil else none
def yF(x:Str)(e:Expr)(es:List Expr):Option ME:=if P8 x&&c.gl x then(Qs r c x e es).orElse λ_=>(E9 r c (e::es)).bind λms=>((c.fns.lookup x).map λf=>.call f ms).orElse λ_=>((c.cls.lookup x).map λf=>.make x f ms).orElse λ_=>if c.blt.contains x then(zV.lookup x).map λp=>.prim p ms else none else none
def FL(x:Str):List Expr->Option ME
 |[]=>yE c x
 |e::es=>yF r c x e es
def c8.meths(m:Str):List (Str×Nat):=(c.mh.filter λy=>decide (y.1=m)).map (·.2)
def yG(o:Expr)(m:Str)(apos pos:Pos)(args:List Expr):Option ME :=
 if U7 o && (apos.endLine == pos.line) && decide (args.length < 20) then (r.e c o).bind λmo=>(E9 r c args).bind λms=>if m="index" then (if args.isEmpty then none else some (.dQ .index mo ms)) else if decide (m="pop") && CY o && !args.isEmpty then some (.dQ .ic mo ms) else if args.isEmpty && (U9.lookup m).isSome then (U9.lookup m).map λp=>.dQ p mo ms else (match Ac.lookup m with
  |some p=>if args.isEmpty then none else some (.dQ p mo ms)
  | none=>some (.bq m (c.meths m) mo ms)) else none
def zR(f:Expr)(args:List Expr)(iw:List Keyword)(pos:Pos):Option ME:=if iw.isEmpty then(match f with
 |.Name x _=>FL r c x args
 |.Attribute o m apos=>yG r c o m apos pos args
 | _=>none) else none
def sW(tg e:Expr):Option ME:=(((vp e).bind λq =>
  if q.1="enumerate" then (match q.2 with
   |[a]=>if c.gl "enumerate"&&c.blt.contains "enumerate"&&fo a&&CH tg then(r.e c a).map .kS else none
   | _=>none)
  else if q.1="reversed" then (match q.2 with
   |[a]=>if c.gl "reversed"&&c.blt.contains "reversed"&&fo a then(r.e c a).map .mR else none
   | _=>none)
  else if q.1="range" then (match q.2 with
   |[a]=>if c.gl "range"&&c.blt.contains "range"&&fo a then(r.e c a).map .fq else none
   |[a,b]=>if c.gl "range"&&c.blt.contains "range"&&fo a&&fo b then(r.e c a).bind λma=>(r.e c b).map λmb=>.iT ma mb else none
   | _=>none)
  else none):Option ME).orElse λ_=>if fo e then (r.e c e).map .eL else none
def V7(elt:Expr)(gens:List Comprehension)(sc:Scope):Option ME:=match gens with
 |[⟨tg,it,ifs,rh⟩]=>if c.vI sc&&decide (rh=0)&&fo it then((c.inner sc).tg tg).bind λt=>(sW r c tg it).bind λmi=>(Fj r (c.inner sc) ifs).bind λmc=>(r.e (c.inner sc) elt).map λme=>.comp (c.a9 sc) (frees sc++locals sc).length t mi mc me else none
 |_=>none
def Dt:Expr->Option Str
 |.Name x _=>some x
 |_=>none
def OA:Expr->Option (Expr×List Comprehension×Scope)
 |.SetComp elt gens sc _=>some (elt,gens,sc)
 |_=>none
def Qo:ME->Option ME
 |.comp a n t i k e=>some (.gG a n t i k e)
 |_=>none
def we(f:Expr)(args:List Expr)(iw:List Keyword):Option ME:=match args with
 |[a]=>if iw.isEmpty&&decide (Dt f=some "sorted")&&c.gl "sorted"&&c.blt.contains "sorted" then(OA a).bind λq=>(V7 r c q.1 q.2.1 q.2.2).bind Qo else none
 |_=>none
def uk(f:Expr)(args:List Expr)(iw:List Keyword):Option ME:=(λ(_:c8)=>none) c
def zy(es:List Expr)(k:Nat):Option ME:=if c.kT&&decide (k=0) then(match es with
 |[.Constant (.int i) _ _]=>some (.prim (.jW i) .nil)
 | _=>none) else none
def Oy:Expr->Option (Expr×List Expr×List Keyword×Pos)
 |.Call f a k p=>some (f,a,k,p)
 |_=>none
def CD:Expr->Option (Expr×Str×Pos)
 |.Attribute o m p=>some (o,m,p)
 |_=>none
def Oz:Expr->Option (Expr×List CmpOp×List Expr)
 |.Compare a ops bs _=>some (a,ops,bs)
 |_=>none
def OC:Expr->Option (List Expr)
 |.Tuple es _ _=>some es
 |_=>none
def c8.nX(c:c8)(e:Expr)(i:Nat):Bool:=((Dt e).map λx=>P8 x&&c.oq x&&decide (c.idx x=some i)).getD false
def AJ(c:c8):List Expr->Bool
 |[b]=>c.nX b 3
 |_=>false
def AI(c:c8):List Expr->Bool
 |[e]=>((Oz e).map λq=>decide (q.2.1=[.NotIn])&&c.nX q.1 0&&AJ c q.2.2).getD false
 |_=>false
def wg(kx vx:Expr)(gens:List Comprehension)(sc:Scope):Option ME:=match gens with
 |[⟨tg,it,ifs,rh⟩]=>if c.vI sc&&decide (rh=0)&&decide ((frees sc++locals sc).length=4)&&(c.inner sc).nX kx 2&&(c.inner sc).nX vx 3&&AI (c.inner sc) ifs then
   (Oy it).bind λq=>(CD q.1).bind λw=>if q.2.1.isEmpty&&q.2.2.1.isEmpty&&decide (w.2.1="items")&&U7 w.1&&(w.2.2.endLine==q.2.2.2.line) then
    (OC tg).bind λes=>if decide ((c.inner sc).slots es=some [2,3]) then (match c.a9 sc with
     |[j]=>(r.e c w.1).map λmo=>.prim .lU (.cons mo (.cons (.var j) .nil))
     | _=>none) else none else none else none
 |_=>none
def Df:Expr->Option ME
 |.Name x _=>zS c x
 |.Constant k _ _=>(Z2 k).map .lit
 |.BinOp a op b _=>c2 r c (.bin op) a b
 |.UnaryOp op a _=>wb r c op a
 |.Compare a ops bs _=>sR r c a ops bs
 |.BoolOp op vs _=>uR r c op vs
 |.IfExp t a b _=>(r.t c t).bind λmt=>(r.e c a).bind λma=>(r.e c b).map λmb=>.ite mt ma mb
 |.Tuple es _ _=>(E9 r c es).map (.prim .tup)
 |.List es _=>(E9 r c es).map (.prim .lst)
 |.Subscript a b _=>zz r c a b
 |.Dict ks vs _=>if ks.isEmpty&&vs.isEmpty then some (.prim .N7 .nil) else if decide (ks.length<=15) then(sU r c ks vs).map .mz else none
 |.JoinedStr vs _=>if decide (2<=vs.length)&&decide (vs.length<=40) then(qm r c vs).map (.prim .lS) else none
 |.Attribute o f _=>if U7 o then c1 r c (.fld f) o else none
 |.Call f args iw pos=>(we r c f args iw).orElse λ_=>(uk c f args iw).orElse λ_=>zR r c f args iw pos
 |.ListComp elt gens sc _=>V7 r c elt gens sc
 |.Set es k _=>zy c es k
 |_=>none
def stepT:Expr->Option ME
 |.UnaryOp op a _=>if op=.Not then(r.t c a).map .cG else none
 |.BoolOp op vs _=>uS r c op vs
 |.Compare a ops bs _=>(sR r c a ops bs).map .dE
 |e=>if zw e then(r.e c e).map .dE else none
def CG:Expr->Option (Str×Pos)
 |.Name x p=>some (x,p)
 |_=>none
def Qx:Expr->Option (Expr×Expr)
 | .Tuple es _ _=>(match es with
  |[a,b]=>some (a,b)
  | _=>none)
 |_=>none
def c8.Ao(x:Str)(px:Pos)(y:Str)(py:Pos)(a b:Expr):Bool:=decide (c.nm.lookup x=some .local)&&decide (c.nm.lookup y=some .local)&&decide (x≠y)&&decide (py.line=px.line)&&fo a&&fo b&&!([a,b].all (foldedForSure 8))&&!([a,b].all (constantsAlone 8))
def c8.uY:List Expr->Expr->Bool
 |[s,t],e=>((CG s).bind λp=>(CG t).bind λq=>(Qx e).map λz=>c.Ao p.1 p.2 q.1 q.2 z.1 z.2).getD false
 |_,_=>false
def CM:Expr->Option ME
 |.Constant k _ _=>(Z2 k).map .lit
 |_=>none
def vc:List Expr->Option ME
 |[]=>some .nil
 |e::es=>(CM e).bind λm=>(vc es).map λms=>.cons m ms
def CL:Expr->Option ME
 |.List es _=>(vc es).map (.prim .lst)
 |.Constant k _ _=>(Z2 k).map .lit
 |_=>none
def Qw:List Stmt->Option Expr
 | [s]=>(match s with
  |.Return e _=>e
  | _=>none)
 |_=>none
def zT:ExceptHandler->Option (Str×Expr)
 |.ExceptHandler t n b _=>if n.isNone then t.bind λt=>(asName t).bind λy=>(Qw b).map λe=>(y,e) else none
def sV:List ExceptHandler->Option (List (Str×ME))
 |[]=>some []
 |h::hs=>(zT h).bind λq=>if c.exc.contains q.1&&c.gl q.1&&P8 q.1 then(CL q.2).bind λm=>(sV hs).map λms=>(q.1,m)::ms else none
def yL(e f:Option Expr):Option (Str×Expr×List Expr):=if f.isNone then e.bind λe=>(vp e).bind λq=>q.2.head?.map λa=>(q.1,a,q.2.tail) else none
def c8.tQ(f:Str):List Str:=(c.mx.filter λy=>decide (y.1=f)).map (·.2)
def zU:List Expr->Option (Expr×Expr×Expr×Expr)
 |_=>none
def Qt(e:Expr):Option ME:=match e with
 |.DictComp kx vx gens sc _=>wg r c kx vx gens sc
 |e=>r.e c e
def Cp(tg e:Expr):Option MS:=match tg with
 |.Name x _=>if c.t4 x then(c.idx x).bind λi=>(r.e c e).map λm=>.set i m else none
 |.Tuple es _ _=>(zU es).elim (if(qr e&&t6 e)||c.uY es e then(c.slots es).bind λis=>(r.e c e).map λm=>.kM (.many is) m else none) λq=>if t6 e&&fo q.2.1&&fo q.2.2.2 then(r.e c q.1).bind λm1=>(r.e c q.2.1).bind λn1=>(r.e c q.2.2.1).bind λm2=>(r.e c q.2.2.2).bind λn2=>(r.e c e).map λm=>.ur m1 n1 m2 n2 m else none
 |.Subscript o i _=>if fo i&&t6 e then(r.e c o).bind λmo=>(r.e c i).bind λmi=>(r.e c e).map λm=>.cF mo mi m else none
 |.Attribute o f _=>(r.e c o).bind λmo=>(Qt r c e).map λm=>.fC f (c.tQ f) mo m
 |_=>none
def CI:Operator->Option Pr
 |.Add=>some .iadd
 |.Sub=>some .mS
 |_=>none
def toR(e:Expr)(m:ME):ME:=(λ(_:c8)=>m) c
def Dg:Stmt->Option MS
 |.Expr e _=>if t6 e then(r.e c e).map .expr else none
 | .Assign wo e _=>(match wo with
  |[tg]=>Cp r c tg e
  | _=>none)
 | .AugAssign tg op e _=>(match tg with
  |.Attribute o f _=>if decide (op=.Add) then(r.e c o).bind λmo=>(r.e c e).map λm=>.jy f (c.tQ f) mo m else none
  |.Name x _=>if c.t4 x then(CI op).bind λp=>(c.idx x).bind λi=>(r.e c e).map λm=>.jx i p m else none
  | _=>none)
 |.If t a b _=>(r.t c t).bind λmt=>(n6 r c a).bind λma=>(n6 r c b).map λmb=>.ifs mt ma mb
 |.For tg it body nh _=>if c.kT&&(nh.isEmpty&&fo it) then(c.tg tg).bind λt=>(sW r c tg it).bind λmi=>(n6 r c body).map λmb=>.eA t mi mb else none
 |.While t body nh _=>if c.kT&&nh.isEmpty then(r.t c t).bind λmt=>(n6 r c body).map λmb=>.iO mt mb else none
 | .Return e _=>(match e with
  |some e=>(r.e c e).map λm=>.ret (toR c e m)
  | none=>some .oy)
 |.Pass _=>some .pass
 |.Raise e f _=>(yL e f).bind λq=>if c.iQ&&c.exc.contains q.1&&c.gl q.1&&P8 q.1 then(E9 r c (q.2.1::q.2.2)).map (.raise q.1) else none
 |.Try body hs el fi _=>if c.iu&&!hs.isEmpty&&el.isEmpty&&fi.isEmpty then(n6 r { c with iQ:=false,iu:=false } body).bind λmb=>(sV c hs).map λms=>.T7 mb ms else none
 |_=>none
end
def comp:Nat->CF
 |0=>⟨λ_ _=>none,λ_ _=>none,λ_ _=>none⟩
 |n+1=>⟨Df (comp n),stepT (comp n),λc s=>(Dg (comp n) c s).orElse λ_=>some (.expr .no)⟩
structure gk(X:Cx)(c:c8)(P:eB)(Ξ:gh):Prop where
 N:X.N=c.N
 nd:c.N.Nodup
 loc:∀x,c.nm.lookup x=some .local->X.env.scope.names.lookup x=some .local
 uO:∀x,c.nm.lookup x=some .cell->X.env.scope.names.lookup x=some .cell
 yh:∀x,c.nm.lookup x=some .free->X.env.scope.names.lookup x=some .cell\/X.env.scope.names.lookup x=some .free
 BN:∀x,c.nm.lookup x=some .globalImplicit->X.env.scope.names.lookup x=some .globalImplicit
 cells:∀x,(c.nm.lookup x=some .cell\/c.nm.lookup x=some .free)->∃a,X.env.cells.lookup x=some a
 kT:∀x,c.nm.lookup x=some .cell->X.fn x=true
 calm:X.calm=true
 units:X.A.units+100<cLine
 own:c.kT=true->PassesOwn (model X.prog X.w) X.A X.env X.xe
 mono:i6 P
 con:∀x d,c.con.lookup x=some d->∃v u,X.mg x=some u/\RelV v u/\∀ρ H,b6 X.K ρ H d v
 blt:∀x,c.blt.contains x=true->X.mg x=none
 fns:∀x f,c.fns.lookup x=some f->∃k fa fd ps,mD X P Ξ.1 k f fa fd ps/\m6 k X.A/\X.mg x=some (.ref fa)/\PySem.W.keepIn X.K (.ref fa)=true
 cls:∀x f,c.cls.lookup x=some f->∃k C fa fd ps,mD X P Ξ.1 k f fa fd ps/\m6 (k+1) X.A/\X.mg x=some (.ref C)/\k9 X.K x C/\ik X.K C/\Mk X.K C fa
 mh:∀m y f C,(m,y,f)∈c.mh->k9 X.K y C->∃k fa fd ps,Meth X.K C m fa/\mD X P Ξ.1 k f fa fd ps/\m6 k X.A
 mx:∀f y C,(f,y)∈c.mx->k9 X.K y C->q8 X.K C f
 uK:Ξ.1=c.exc
 pass:Passes (gj X.prog X.w) X Ξ.2
 iQ:c.iQ=true->vo X Ξ.2
 iu:c.iu=true->X.stack=X.env::X.outer/\X.env.frame=some X.env.locals/\tE X Ξ.2
 exc:∀x,c.exc.contains x=true->∃C,X.mg x=some (.ref C)/\k9 X.K x C/\∃B newId fS bm,OwnCls x C bm newId X.mg X.base/\ExcBaseFacts B newId fS bm
 yj:∀x y C C',c.exc.contains x=true->c.exc.contains y=true->k9 X.K x C->k9 X.K y C'->PySem.W.exmOne X.K (.ref C) (.ref C')=some (decide (x=y\/y="MintError"))
 su:∀x kvs,c.gd.lookup x=some kvs->uP X x kvs
 code:c.kT=true->PySem.W.kdsCode X.K X.env.code=true
theorem MG(h:c.idx x=some i):c.N[i]?=some x:=by
 unfold c8.idx at h;rw[jB] at h;obtain⟨h1,h2,_⟩:=h;rw[az h1,aQ h2]
theorem gk.Dk(C:gk X c P Ξ)(h:c.oq x=true):tT X.env.scope x:=by
 unfold c8.oq at h;split at h
 ·rename_i e;exact .inl (C.loc x e)
 ·rename_i e;exact .inr (.inl (C.uO x e))
 ·rename_i e;rcases C.yh x e with z|z
  ·exact .inr (.inl z)
  ·exact .inr (.inr z)
 ·cases h
theorem gk.p7(C:gk X c P Ξ)(h:c.gl x=true):Gl X x:=C.BN x (aQ h)
theorem gk.t4(C:gk X c P Ξ){x:Str}(h:c.t4 x=true):Loc X.env.scope x/\(X.fn x=true\/X.env.scope.names.lookup x=some .local):=by
 unfold c8.t4 at h;rw[fm] at h;rcases h with h|h
 ·have:=C.loc x (aQ h);exact⟨.inl this,.inr this⟩
 ·exact⟨.inr (C.uO x (aQ h)),.inl (C.kT x (aQ h))⟩
theorem gk.nV(C:gk X c P Ξ)(h:c.idx x=some i):X.N[i]?=some x:=by rw[C.N];exact MG h
theorem gk.nE(C:gk X c P Ξ):X.N.Nodup:=by rw[C.N];exact C.nd
theorem Z4(h:asName e=some x):∃p,e=.Name x p:=by
 cases e<;>first|(cases h;exact⟨_,rfl⟩)|cases h
theorem DA(h:c.slot e=some i):∃x p,e=.Name x p/\c.t4 x=true/\c.idx x=some i:=by
 unfold c8.slot at h;obtain⟨x,hx,h2⟩:=ag.mp h;obtain⟨p,rfl⟩:=Z4 hx;split at h2
 ·exact⟨x,p,rfl,by assumption,h2⟩
 ·cases h2
theorem gk.slots(C:gk X c P Ξ):∀{es:List Expr} {is:List Nat},c.slots es=some is->fh X es is:=by
 intro es
 induction es with
 |nil=>intro is h;cases h;exact .nil
 |cons e r ih =>
  intro is h;unfold c8.slots at h;obtain⟨i,hi,h⟩:=ag.mp h;obtain⟨YV,hs,rfl⟩:=ae.mp h;obtain⟨x,p,rfl,hl,hx⟩:=DA hi;exact .cons (C.nV hx) (C.t4 hl).1 (C.t4 hl).2 (ih hs)
theorem orElse_some{α:Type}{a:Option α}{b:Unit->Option α}{m:α}(h:a.orElse b=some m):a=some m\/b ()=some m:=by
 cases a with
 |none=>exact .inr h
 |some x=>exact .inl h
theorem gk.Ct(C:gk X c P Ξ){tg:Expr}{t:MT}(h:c.tg tg=some t):PG X tg (LG X.K t):=by
 unfold c8.tg at h;rcases orElse_some h with h|h
 ·obtain⟨i,hi,rfl⟩:=ae.mp h;obtain⟨x,p,rfl,hl,hx⟩:=DA hi;exact Lz C.nE (C.nV hx) (C.t4 hl).1 (C.t4 hl).2
 ·cases tg<;>first|(cases h;done)|skip
  obtain⟨is,hs,rfl⟩:=ae.mp (show(c.slots _).map MT.many=some t from h);exact Gu C.calm C.nE (C.slots hs)
theorem i7(h:fo e=true):starEach (e::es) env=(false,eval e env)::starEach es env:=by
 cases e<;>first|rfl|cases h
theorem X7(h:fo e=true):∀x,foldedSetIterable e env x=pure x:=by
 intro x;cases e<;>first|rfl|cases h
theorem Fq(h:fo e=true):yI e:=by
 intro o i;cases e<;>first|rfl|cases h
theorem Nc{i:Expr}{tp:Pos}(h:fo i=true):∀v,assign (.Subscript o i tp) env v=(do
      let ov <- holding [v] (eval o env)
      let iv <- holding [v,ov] (eval i env)
      standAt tp
      holding [v,ov,iv] (setItem ov iv v)
      release [v,ov,iv] []):=by
  intro v;cases i<;>first|rfl|cases h
theorem zu{t:Option Expr}(h:t6 e=true):swapsWith e t n env=pure false:=by
 cases e<;>first|rfl|cases h
theorem Xi{k:Nat}{p:Pos}(h:qr e=true):swappedStores [.Tuple es k p] e env=pure none:=by
 cases e<;>first|rfl|cases h
theorem UB(h:zw e=true):∀whole,isTrue e env whole=(do let v <- whole;standAt e.pos;holding [v] (truthy v)):=by
 intro w;cases e<;>first|rfl|cases h
theorem U2{q:Str×List Expr}(h:vp e=some q):∃p pos,e=.Call (.Name q.1 p) q.2 [] pos:=by
 cases e<;>first|(cases h;done)|skip
 rename_i f as iw pos;cases f<;>first|(cases h;done)|skip
 cases iw<;>first|(cases h;done)|skip
 cases h;exact⟨_,_,rfl⟩
theorem Tt(h:CH e=true):∃es k p,e=.Tuple es k p:=by
 cases e<;>first|exact⟨_,_,_,rfl⟩|cases h
theorem GD{kvs:List D}(h:c.vN b=some kvs):∃x p,b=.Name x p/\c.gl x=true/\P8 x=true/\c.gd.lookup x=some kvs:=by
 unfold c8.vN at h;obtain⟨x,hx,h2⟩:=ag.mp h;obtain⟨p,rfl⟩:=Z4 hx;split at h2
 ·rename_i hc;rw[aZ] at hc;exact⟨x,p,rfl,hc.1,hc.2,h2⟩
 ·cases h2
theorem C0{f:Str}(h:U7 o=true):attributeBase o f env (eval o env)=eval o env:=by
 cases o<;>first|rfl|skip
 rename_i f as iw pos;cases f<;>first|rfl|cases h
theorem yO{env:Env}:∀(names:List (Str×NameKind)) (acc:List (Str×Addr)),(∀y∈names,y.2=.free->∃a,env.cells.lookup y.1=some a)->(∀x a,acc.lookup x=some a->env.cells.lookup x=some a) ->
  ∃ cl,(forIn names acc λ(y:Str × NameKind) (cs:List (Str × Addr))=>(match y with
   |(name,kind)=>if(kind==NameKind.free)=true then do
     let __do_lift <- cellOf env name
     pure (ForInStep.yield ((name,__do_lift)::cs))
    else pure (ForInStep.yield cs):Sem (ForInStep (List (Str × Addr)))))=pure cl/\(∀ x a,cl.lookup x=some a->env.cells.lookup x=some a)/\(∀ y ∈ names,y.2=.free->∃ a,cl.lookup y.1=some a)/\∀ x a,acc.lookup x=some a->∃ a',cl.lookup x=some a'
 |[],acc,_,h2=>⟨acc,rfl,h2,λy hy=>absurd hy (by simp),λx a h=>⟨a,h⟩⟩
 |(n,k)::r,acc,h1,h2=>by
  rw[List.forIn_cons];by_cases hk:k=.free
  ·subst hk;obtain⟨a,ha⟩:=h1 (n,.free) (by simp) rfl;have hc:cellOf env n=pure a:=by unfold cellOf;rw[ha]
   obtain ⟨cl,e,q1,q2,q3⟩:=yO r ((n,a) :: acc) (λy hy=>h1 y (by simp [hy])) (λx b hb=>by
    rw[cc] at hb;cases hx:x==n with
    |true=>rw[hx] at hb;cases hb;rw[eq_of_beq hx];exact ha
    | false=>rw [hx] at hb;exact h2 x b hb)
   refine⟨cl,?_,q1,λy hy hf=>?_,λx b hb=>?_⟩
   ·simp only[beq_self_eq_true,if_true,hc];exact e
   ·rcases aw.mp hy with z|z
    ·subst z;exact q3 n a (by simp[List.lookup_cons])
    ·exact q2 y z hf
   ·cases hx:x==n with
    |true=>exact q3 x a (by rw[cc,hx])
    |false=>exact q3 x b (by rw[cc,hx];exact hb)
  ·have hb:(k==NameKind.free)=false:=by simpa using hk
   obtain⟨cl,e,q1,q2,q3⟩:=yO r acc (λy hy=>h1 y (by simp[hy])) h2;refine⟨cl,?_,q1,λy hy hf=>?_,q3⟩
   ·simp only[hb,Bool.false_eq_true,if_false];exact e
   ·rcases aw.mp hy with z|z
    ·subst z;exact absurd hf hk
    ·exact q2 y z hf
theorem Uu{P:Program}{w:World}:Passes (gj P w) X (λ_ _ _=>False):=λ_ _ _ _ _ _ _ h=>by
 obtain⟨_,_,_,_,_,_,_,z⟩:=h;exact z.elim
theorem O0{env:Env}:∀{names:List (Str×NameKind)} {x:Str},names.lookup x=some .globalImplicit ->
  (names.map λ(n,k)=>if(k==NameKind.free&&env.scope.kind==.function&&env.kindOf n==some .cell) then(n,NameKind.cell) else(n,k)).lookup x=some .globalImplicit
 |[],_,h=>by simp at h
 |(n,k)::r,x,h=>by
  have ih:=@O0 env r x;show List.lookup x ((if(k==NameKind.free&&env.scope.kind==.function&&env.kindOf n==some .cell)=true then(n,NameKind.cell) else(n,k))::_)=_;cases hx:x==n with
  |true =>
   simp only[List.lookup_cons,hx] at h;cases h;simp[List.lookup_cons,hx]
  |false =>
   simp only[List.lookup_cons,hx] at h;by_cases hc:(k==NameKind.free&&env.scope.kind==.function&&env.kindOf n==some .cell)=true
   ·rw[aK hc];simp only[List.lookup_cons,hx];exact ih h
   ·rw[aD hc];simp only[List.lookup_cons,hx];exact ih h
theorem gk.comp(C:gk X c P Ξ)(h:c.vI sc=true):∃cl,cx X sc (frees sc++locals sc) (c.a9 sc) cl/\∀pins A s H fp,gk (a5 X pins sc (frees sc++locals sc) cl A s H fp) (c.inner sc) P (mB Ξ.1):=by
 unfold c8.vI at h;simp only[Bool.and_eq_true,decide_eq_true_eq,List.all_eq_true] at h;obtain⟨⟨⟨⟨h1,h2⟩,h3⟩,h4⟩,h5⟩:=h;have lM:∀x,sc.names.lookup x=some .free->x∈frees sc:=λx hx=>by
  unfold frees;exact aC.mpr ⟨(x,.free),cy.mpr ⟨aH hx,by simp⟩,rfl⟩
 have fr:∀x∈frees sc,(∃i,c.idx x=some i)/\sc.names.lookup x=some .free/\(c.nm.lookup x=some .cell\/c.nm.lookup x=some .free):=λx hx=>by
  have:=h5 x hx;rw[dP,fm] at this;simp only[decide_eq_true_eq] at this;exact⟨this.1.1,this.1.2,this.2⟩
 have pe:∀y∈sc.names,y.2=.free->∃a,X.env.cells.lookup y.1=some a:=λy hy hf=>by
  have hm:y.1∈frees sc:=aC.mpr ⟨y,cy.mpr ⟨hy,by simp[hf]⟩,rfl⟩;exact C.cells y.1 (fr y.1 hm).2.2
 obtain⟨cl,e,q1,q2,_⟩:=yO sc.names [] pe (λx a h=>by simp at h);have h2:∀y∈sc.names,y.2=.cell->sc.names.lookup y.1=some .cell:=λy hy hl=>by
  have:=h2 y hy;rw[fm] at this;simp only[Bool.not_eq_true',decide_eq_false_iff_not,decide_eq_true_eq] at this;exact this.resolve_left λz=>z hl
 refine⟨cl,⟨h1,h2,λy hy hl=>?_,?_,q1,λx hx=>q2 (x,.free) (aH hx) rfl,h4,λi j ie=>?_,?_⟩,λpins A s H fp=>?_⟩
 ·have:=h3 y hy;rw[fm] at this;simp only[Bool.not_eq_true',decide_eq_false_iff_not,decide_eq_true_eq] at this;exact this.resolve_left λz=>z hl
 ·simp only[closureFor];rw[e]
  rfl
 ·unfold c8.a9 at ie;rw[aF] at ie;cases ex:(frees sc)[i]? with
  |none=>rw[ex] at ie;cases ie
  |some x =>
   rw[ex] at ie;have hx:x∈frees sc:=bH ex;obtain⟨⟨k,hk⟩,hl,hc⟩:=fr x hx;have hj:k=j:=by
    have:=aB ie;dsimp only at this;rw[hk] at this;exact this
   subst hj;refine⟨x,?_,C.nV hk,hl,?_⟩
   ·rw[aG (ax.mp ex).1];exact ex
   ·rcases hc with z|z
    ·exact .inl (C.uO x z)
    ·exact C.yh x z
 ·unfold c8.a9;rw[ay,bt];omega
 ·refine⟨rfl,h4,λx hx=>lookup_relabel_local hx,λx hx=>?_,λx hx=>C4 hx,λx hx=>O0 hx,λx hx=>?_,λx _=>?_,rfl,C.units,(λ_=>PassesOwn.never),C.mono,C.con,C.blt,C.fns,C.cls,C.mh,C.mx,C.uK,Uu,(λz=>by cases z),(λz=>by cases z),C.exc,C.yj,C.su,(λz=>by cases z)⟩
  ·exact K9 hx
  ·rcases hx with hx|hx
   ·exact DO (.inl hx)
   ·exact DO (.inr (q2 (x,.free) (aH hx) rfl))
  ·exact aT ‹_›
theorem B5(h:P8 x=true):(x==("__debug__":Str))=false/\(x==("__classdict__":Str))=false/\x≠"__name__":=by
 unfold P8 at h;simp only[Bool.and_eq_true,decide_eq_true_eq,beq_iff_eq] at h;exact⟨h.1.1,h.1.2,h.2⟩
theorem Yl{t:String}(h:zP.lookup x=some t):bootBuiltins x=some (.type t):=by
 have hm:=aH h;simp only[zP,List.mem_cons,List.mem_nil_iff,or_false] at hm;rcases hm with z|z|z|z|z<;>(cases z;first|exact ui|exact PyProof.Rows.boot_bool|exact PyProof.Rows.boot_str|exact pL|exact eG|decide +kernel|rfl)
theorem Tu(hc:X.calm=true)(h:zV.lookup x=some p):∃v,((∃id,v=.builtin id)\/∃T,v=.type T)/\bootBuiltins x=some v/\j5 X v (rN X.K p):=by
 have hm:=aH h;simp only[zV,List.mem_cons,List.mem_nil_iff,or_false] at hm;rcases hm with z|z|z|z|z|z|z|z|z|z
 ·cases z;exact⟨.builtin "len",.inl ⟨_,rfl⟩,PySem.boot_len,Ki⟩
 ·cases z;exact⟨.type "list",.inr ⟨_,rfl⟩,by first|exact eG|decide +kernel,MQ hc⟩
 ·cases z;exact⟨.type "tuple",.inr ⟨_,rfl⟩,by first|exact pL|decide +kernel,Yi⟩
 ·cases z;exact⟨.builtin "isinstance",.inl ⟨_,rfl⟩,by first|exact PyProof.Rows.boot_isinstance|decide +kernel,MJ⟩
 ·cases z;exact⟨.builtin "all",.inl ⟨_,rfl⟩,by first|exact PyProof.Rows.boot_all|decide +kernel,SA hc⟩
 ·cases z;exact⟨.builtin "max",.inl ⟨_,rfl⟩,by first|exact PyProof.Rows.boot_max|decide +kernel,Ko hc⟩
 ·cases z;exact⟨.type "int",.inr ⟨_,rfl⟩,by first|exact ui|decide +kernel,J'⟩
 ·cases z;exact⟨.builtin "sorted",.inl ⟨_,rfl⟩,by first|exact gc|decide +kernel,Yb hc⟩
 ·cases z;exact⟨.builtin "sum",.inl ⟨_,rfl⟩,by first|exact PyProof.Rows.boot_sum|decide +kernel,LO hc⟩
 ·cases z;exact⟨.type "set",.inr ⟨_,rfl⟩,by first|exact gX|decide +kernel,MP hc⟩
theorem Vm(h:U9.lookup x=some p):∃T id,PlainAttrs T/\Slot T x id/\typeOf (.builtin id)=pure (.type "method_descriptor")/\jR X id (rM X.K p) /\
  ∀{d:D} {v:V} {g:G} {ρ:List Addr} {H:Hp},Rl X.K ρ g H->b6 X.K ρ H d v->mj p d g->lZ X.K T v H:=by
 have hm:=aH h;simp only[U9,List.mem_cons,List.mem_nil_iff,or_false] at hm;rcases hm with z|z
 ·cases z;exact⟨_,_,dZ,PySem.F.slot_list_clear,PySem.F.type_list_clear,WI,λR r h=>ty_list R r h⟩
 ·cases z;exact⟨_,_,dZ,ug,uf,Nw,λR r h=>ty_list R r h⟩
theorem Uk(hu:X.A.units+100<cLine)(h:Ac.lookup x=some p):∃T id,PlainAttrs T/\Slot T x id/\typeOf (.builtin id)=pure (.type "method_descriptor")/\jR X id (rM X.K p) /\
  ∀{d:D} {v:V} {g:G} {ρ:List Addr} {H:Hp},Rl X.K ρ g H->b6 X.K ρ H d v->mj p d g->lZ X.K T v H:=by
 have hm:=aH h;simp only[Ac,List.mem_cons,List.mem_nil_iff,or_false] at hm;rcases hm with z|z|z
 ·cases z;exact⟨_,_,dZ,PySem.F.slot_list_append,PySem.F.type_list_append,Ts,λR r h=>ty_list R r h⟩
 ·cases z;exact⟨_,_,dZ,ug,uf,XB,λR r h=>ty_list R r h⟩
 ·cases z;exact⟨_,_,PySem.F.plainAttrs_set,PySem.F.slot_set_add,PySem.F.type_set_add,NJ,λR r h=>ty_set R r h⟩
theorem DC{pos:Pos}{env:Env}:∀{es:List Expr},(∀e∈es,fo e=true)->(backTo pos (starEach es env)).all (λx=>!x.1)=true
 |[],_=>rfl
 |e::es,h=>by
  rw[i7 (h e (by simp))];have ih:=DC (pos:=pos) (env:=env) (es:=es) λx hx=>h x (by simp[hx]);unfold backTo at ih ⊢;rw[ba,gf,ih]
  rfl
theorem L3{pos:Pos}{env:Env}:∀{es:List Expr},(∀e∈es,fo e=true)->(backTo pos (starEach es env)).any (·.1)=false
 |[],_=>rfl
 |e::es,h=>by
  rw[i7 (h e (by simp))];have ih:=L3 (pos:=pos) (env:=env) (es:=es) λx hx=>h x (by simp[hx]);unfold backTo at ih ⊢;rw[ba,eZ,ih]
  rfl
theorem yX:∀{es:List Expr} {m:ME},E9 r c es=some m->∀e∈es,fo e=true:=by
 intro es
 induction es with
 |nil=>intro m _ e he;exact absurd he (by simp)
 |cons a es ih =>
  intro m h e he;unfold E9 at h;split at h
  ·obtain⟨m1,h1,h⟩:=ag.mp h;obtain⟨m2,h2,_⟩:=ae.mp h;rcases aw.mp he with z|z
   ·rw[z];assumption
   ·exact ih h2 e z
  ·cases h
theorem UT(h:Fi a=some x):∃j p,a=.Constant (.str x) j p:=by
 cases a with
 |Constant k j p=>cases k with
  |str y=>cases h;exact⟨_,_,rfl⟩
  |_=>cases h
 |_=>cases h
theorem WD(h:Ds a=some e):∃p,a=.FormattedValue e (-1) none p:=by
 cases a with
 |FormattedValue v k f p=>cases f with
  |none =>
   have h2:(if k=-1 then some v else none)=some e:=h;split at h2
   ·rename_i hk;cases h2;rw[hk];exact⟨_,rfl⟩
   ·cases h2
  |some _=>cases h
 |_=>cases h
structure og(P:eB)(r:CF):Prop where
 e:∀X c Ξ,gk X c P Ξ->∀e m,r.e c e=some m->PE X e (LE X.K Ξ (aP P m))
 t:∀X c Ξ,gk X c P Ξ->∀e m,r.t c e=some m->PT X e (LT X.K Ξ (dq P m))
 s:∀X c Ξ,gk X c P Ξ->∀st m,r.s c st=some m->PS X st (LS X.K Ξ (wpS P m))
section
variable(S:og P r)(C:gk X c P Ξ)
include S C
theorem V5(h:c1 r c p a=some m):∃ma,PE X a (LE X.K Ξ (aP P ma))/\m=.prim p (.cons ma .nil):=by
 obtain⟨ma,ha,rfl⟩:=ae.mp h;exact⟨ma,S.e X c Ξ C _ _ ha,rfl⟩
theorem V4(h:c2 r c p a b=some m):∃ma mb,PE X a (LE X.K Ξ (aP P ma))/\PE X b (LE X.K Ξ (aP P mb))/\m=.prim p (.cons ma (.cons mb .nil)):=by
 obtain⟨ma,ha,h⟩:=ag.mp h;obtain⟨mb,hb,rfl⟩:=ae.mp h;exact⟨ma,mb,S.e X c Ξ C _ _ ha,S.e X c Ξ C _ _ hb,rfl⟩
theorem pO:∀{es:List Expr} {m:ME},E9 r c es=some m->PA X es (LA X.K Ξ (eN P m)):=by
 intro es
 induction es with
 |nil=>intro m h;cases h;exact F6 C.mono
 |cons a es ih =>
  intro m h;unfold E9 at h;split at h
  ·rename_i br;obtain⟨m1,h1,h⟩:=ag.mp h;obtain⟨m2,h2,rfl⟩:=ae.mp h;exact u5 C.mono (S.e X c Ξ C _ _ h1) (ih h2) (i7 br)
  ·cases h
theorem HK:∀{es:List Expr} {m:ME},qm r c es=some m->∃ts,kW X Ξ P es m ts:=by
 intro es
 induction es with
 |nil=>intro m h;cases h;exact⟨_,.nil⟩
 |cons a es ih =>
  intro m h;unfold qm at h;rcases orElse_some h with h1|h1
  ·obtain⟨x,hx,h2⟩:=ag.mp h1;obtain⟨j,p,rfl⟩:=UT hx;split at h2
   ·obtain⟨m2,h3,rfl⟩:=ae.mp h2;obtain⟨ts,F⟩:=ih h3;exact⟨_,.lit (by assumption) F⟩
   ·cases h2
  ·obtain⟨x,hx,h2⟩:=ag.mp h1;obtain⟨m1,h3,h4⟩:=ag.mp h2;obtain⟨m2,h5,rfl⟩:=ae.mp h4;obtain⟨p,rfl⟩:=WD hx;obtain⟨ts,F⟩:=ih h5;exact⟨_,.val (S.e X c Ξ C _ _ h3) F⟩
theorem HM:∀{ks:List (Option Expr)} {vs:List Expr} {m:ME},sU r c ks vs=some m->∃gF,kX X Ξ P ks vs m gF:=by
 intro ks
 induction ks with
 |nil=>intro vs m h;cases vs<;>first|(cases h;exact⟨_,.nil⟩)|cases h
 |cons k ks ih =>
  intro vs m h;cases k<;>first|(cases h;done)|skip
  cases vs<;>first|(cases h;done)|skip
  unfold sU at h;obtain⟨m1,h1,h⟩:=ag.mp h;obtain⟨m2,h2,h⟩:=ag.mp h;obtain⟨m3,h3,rfl⟩:=ae.mp h;obtain⟨gF,D⟩:=ih h3;exact⟨_,.cons (S.e X c Ξ C _ _ h1) (S.e X c Ξ C _ _ h2) D⟩
theorem HN{op:BoolOp}:∀{vs:List Expr} {m:ME},uR r c op vs=some m->PE X (.BoolOp op vs pos) (LE X.K Ξ (aP P m)):=by
 intro vs
 induction vs with
 |nil=>intro m h;cases h
 |cons a vs ih =>
  intro m h;cases vs with
  |nil=>exact KQ (S.e X c Ξ C _ _ h)
  |cons b vs =>
   unfold uR at h;obtain⟨m1,h1,h⟩:=ag.mp h;obtain⟨m2,h2,rfl⟩:=ae.mp h;cases op
   ·exact Lo C.mono (S.e X c Ξ C _ _ h1) (ih h2)
   ·exact RX C.mono (S.e X c Ξ C _ _ h1) (ih h2)
theorem HH{op:BoolOp}:∀{vs:List Expr} {m:ME},uS r c op vs=some m->PW X (.BoolOp op vs pos) (LT X.K Ξ (dq P m)):=by
 intro vs
 induction vs with
 |nil=>intro m h;cases h
 |cons a vs ih =>
  intro m h;cases vs with
  |nil =>
   cases op
   ·exact NG (S.t X c Ξ C _ _ h)
   ·exact Lg (S.t X c Ξ C _ _ h)
  |cons b vs =>
   unfold uS at h;obtain⟨m1,h1,h⟩:=ag.mp h;obtain⟨m2,h2,rfl⟩:=ae.mp h;cases op
   ·exact LP C.mono (S.t X c Ξ C _ _ h1) (ih h2)
   ·exact Sa C.mono (S.t X c Ξ C _ _ h1) (ih h2)
theorem Ph(h:Fj r c es=some m):jf X es (LT X.K Ξ (dq P m)):=by
 rcases es with _|⟨e,_|⟨_,_⟩⟩
 ·cases h;exact Od C.mono
 ·exact Gi (S.t X c Ξ C _ _ h)
 ·cases h
theorem qg:∀{AR:List Stmt} {m:MS},n6 r c AR=some m->ij X AR (LS X.K Ξ (wpS P m)):=by
 intro es
 induction es with
 |nil=>intro m h;cases h;exact FC C.mono
 |cons a es ih =>
  intro m h;unfold n6 at h;obtain⟨m1,h1,h⟩:=ag.mp h;obtain⟨m2,h2,rfl⟩:=ae.mp h;exact Gv C.mono (S.s X c Ξ C _ _ h1) (ih h2)
end
theorem EV{t:Expr}(h:t6 e=true):swapsWithSole [t] e n env=pure false:=by
 show swapsWith e (some t) n env=pure false;exact zu h
theorem Vq{y:Str}{py pt nD:Pos}{kt k2:Nat}(hk:env.scope.kind=.function)(hx:env.kindOf x=some .local)(hy:env.kindOf y=some .local)(eR:x≠y)(hl:py.line=px.line)(ha:fo a=true)(hb:fo b=true)(h1:[a,b].all (foldedForSure 8)=false)(h2:[a,b].all (constantsAlone 8)=false):swappedStores [.Tuple [.Name x px,.Name y py] kt pt] (.Tuple [a,b] k2 nD) env=pure (some [x,y]):=by
 have IJ:env.blockKind=.function:=by simp[Env.blockKind,hk,ScopeKind.isAnnotationScope]
 have hd:[x,y].eraseDups.length=2:=by
  have:(y==x)=false:=by simpa using bg eR
  simp[List.eraseDups_cons,this]
 have wY:(env.kindOf x==some NameKind.local&&px.line==px.line)=true:=by simp[hx]
 have wX:(env.kindOf y==some NameKind.local&&py.line==px.line)=true:=by simp[hy,hl]
 have hp:Expr.pos (.Name x px)=px:=rfl;unfold swappedStores;simp only[List.length_cons,List.length_nil,IJ,List.head?_cons,Option.map_some,Option.getD_some,hp,List.filterMap_cons,List.filterMap_nil,wY,wX,if_true,hd,h1,h2];rw[aD (by decide),aD ?_]
 ·rfl
 ·simp only[List.any_cons,List.any_nil,Bool.or_false,Bool.or_eq_true,not_or];constructor
  ·cases a<;>first|(intro h;cases h;done)|cases ha
  ·cases b<;>first|(intro h;cases h;done)|cases hb
theorem LU(hP:i6 P){j:Nat}{y:Str}{py pt nD:Pos}{kt k2:Nat}{fG:ME}(hc:X.calm=true)(hN:X.N.Nodup)(hi:X.N[i]?=some x)(hj:X.N[j]?=some y)(eR:x≠y)(hl:py.line=px.line)(hx:X.env.scope.names.lookup x=some .local)(hy:X.env.scope.names.lookup y=some .local)(oa:fo a=true)(ob:fo b=true)(h1:[a,b].all (foldedForSure 8)=false)(h2:[a,b].all (constantsAlone 8)=false)(ha:PA X [a,b] (LA X.K Ξ (eN P fG))):PS X (.Assign [.Tuple [.Name x px,.Name y py] kt pt] (.Tuple [a,b] k2 nD) pos) (LS X.K Ξ (wpS P (.kM (.many [i,j]) (.prim .tup fG)))):=by
 intro pins s bE H D I h;have ie:i≠j:=by
  rintro rfl;rw[hi] at hj;cases hj;exact eR rfl
 refine Lb hc hN hi hj ie hx hy ha (Vq I.ok.kind hx hy eR hl oa ob h1 h2) rfl pins s bE H D I ?_;obtain⟨Z,g,ρ,sr,R,h⟩:=h;refine iD hP sr R (.refl _ _) (show eN P fG Z g (λxs g1=>cI .tup xs g1 _) _ from h) λds g1 bA H1 vs e1 R1 r1 h=>?_;obtain⟨d',g',⟨_,rfl,rfl⟩,l,bL,ex,hs,h⟩:=h;cases ex;have hl:=X4 hs;have e2:∃d1 d2,ds=[d1,d2]:=by
  rcases ds with _|⟨d1,_|⟨d2,_|⟨d3,r⟩⟩⟩<;>first|exact⟨_,_,rfl⟩|(simp at hl;done)|(simp at hl;omega)
 obtain⟨d1,d2,rfl⟩:=e2;obtain⟨v,w,rfl,q1,q2⟩:=r1.two;cases hs;exact⟨_,_,rfl,h bA H1 _ e1 R1 (((sr.ext e1).set i q1).set j q2)⟩
theorem gk.T7(C:gk X c P Ξ)(ei:X.stack=X.env::X.outer)(hf:X.env.frame=some X.env.locals)(pins:List (Addr×Obj))(D:L2.Ends)(hs:List ExceptHandler) :
  gk (R9 X pins (qu X pins D hs)) { c with iQ:=false,iu:=false } P (vR X Ξ.1 D hs) :=
 ⟨C.N,C.nd,C.loc,C.uO,C.yh,C.BN,C.cells,C.kT,C.calm,C.units,(λ_=>PassesOwn.looking),C.mono,C.con,C.blt,C.fns,C.cls,C.mh,C.mx,C.uK,Xo ei hf λC H' ⟨C',e,z⟩=>(by cases e;exact z),(λz=>by cases z),(λz=>by cases z),C.exc,C.yj,C.su,C.code⟩
theorem Ee{m:Str}{apos:Pos}(hb:U7 o=true)(hl:(apos.endLine==pos.line)=true)(hf:methodCallForm args.length (backTo pos (starEach args env)) (backToKw pos (keywordEach [] env))=true) :
  eval (.Call (.Attribute o m apos) args [] pos) env=(do
   let ov <- eval o env
   standAt apos.atName
   let (f,first) <- holding [ov] (getMethod ov m (do return (<- importBound o env).getD true))
   callWith pos f first (backTo pos (starEach args env)) (backToKw pos (keywordEach [] env))):=by
 have h1:eval (.Call (.Attribute o m apos) args [] pos) env=(do
   let ov <- attributeBase o m env (eval o env)
   standAt apos.atName
   methodCall o m apos pos env ov (args.length + 0) (backTo pos (starEach args env)) (backToKw pos (keywordEach [] env))):=rfl
 rw[h1,C0 hb];have h2:∀ ov,methodCall o m apos pos env ov (args.length + 0) (backTo pos (starEach args env)) (backToKw pos (keywordEach [] env))=(do
   let (f,first) <- holding [ov] (getMethod ov m (do return (<- importBound o env).getD true))
   callWith pos f first (backTo pos (starEach args env)) (backToKw pos (keywordEach [] env))):=λov=>by
  unfold methodCall calleeOf methodCallPos;rw[Nat.add_zero,hf,hl];simp only[if_true,Bool.not_true,Bool.false_or,pure_bind]
 simp only[h2]
section
variable(S:og P r)(C:gk X c P Ξ){d:Expr}
include C
theorem Kq(h:zS c x=some m):PE X (.Name x pos) (LE X.K Ξ (aP P m)):=by
 unfold zS at h;split at h
 ·rename_i gq;obtain⟨d1,d2,d3⟩:=B5 gq;split at h
  ·rename_i hv;obtain⟨i,hi,rfl⟩:=ae.mp h;exact Lx (C.nV hi) (C.Dk hv) d1 d2
  ·split at h
   ·rename_i hg;rcases orElse_some h with h|h
    ·obtain⟨d,hd,rfl⟩:=ae.mp h;obtain⟨v,u,hm,r,rr⟩:=C.con x d hd;exact P5 (vE (C.p7 hg) hm r d1) rr
    ·split at h
     ·rename_i hb;obtain⟨t,ht,rfl⟩:=ae.mp h;exact P5 (v:=.ty t) (Nl (C.p7 hg) (C.blt x hb) (Yl ht) rfl d3 d1) λ_ _=>.ty t
     ·cases h
   ·cases h
 ·cases h
omit C in
theorem wG{k:Const}{j:Nat}{d:D}(h:Z2 k=some d):PE X (.Constant k j pos) (LE X.K Ξ (aP P (.lit d))):=by
 cases k<;>first|(cases h;done)|skip
 ·cases h;exact P5 KO λ_ _=>.bc
 ·cases h;exact P5 RC λ_ _=>.bl _
 ·cases h;exact P5 KL λ_ _=>.int _
 ·cases h;exact P5 Fu λ_ _=>.str _
include S
theorem Pj{op:UnaryOp}(h:wb r c op a=some m):PE X (.UnaryOp op a pos) (LE X.K Ξ (aP P m)):=by
 unfold wb at h;split at h
 ·rename_i ho;subst ho;obtain⟨ma,ha,rfl⟩:=ae.mp h;exact Lv C.mono (S.e X c Ξ C _ _ ha)
 ·obtain⟨ma,ha,rfl⟩:=V5 S C h;exact RY C.mono ha
theorem CV{ops:List CmpOp}{bs:List Expr}(h:sR r c a ops bs=some m):PE X (.Compare a ops bs pos) (LE X.K Ξ (aP P m))/\PT X (.Compare a ops bs pos) (LT X.K Ξ (dq P (.dE m))):=by
 unfold sR at h;split at h
 ·rename_i op b;split at h
  ·cases h
  ·rename_i hm;have hm:behindInMarks op b=false:=by simpa using hm
   rcases orElse_some h with h|h
   ·obtain⟨neg,hn,h⟩:=ag.mp h;obtain⟨kvs,hk,h⟩:=ag.mp h;obtain⟨ma,ha,rfl⟩:=ae.mp h;obtain⟨x,p,rfl,hg,hd,hk⟩:=GD hk;have ho:op=if neg then .NotIn else .In:=by cases op<;>cases hn<;>rfl
    subst ho;exact⟨Ls C.mono (C.p7 hg) (B5 hd).1 (C.su x kvs hk) (S.e X c Ξ C _ _ ha) hm,LJ C.mono (C.p7 hg) (B5 hd).1 (C.su x kvs hk) (S.e X c Ξ C _ _ ha) hm⟩
   ·obtain⟨ma,mb,ha,hb,rfl⟩:=V4 S C h;exact⟨yz C.mono (Ge (U6 C.units op) ha hb hm),LL C.mono (yU (U6 C.units op) ha hb hm)⟩
 ·split at h
  ·cases h
  ·rename_i hm;obtain⟨ma,ha,h⟩:=ag.mp h;obtain⟨mb,hb,h⟩:=ag.mp h;obtain⟨md,hd,rfl⟩:=ae.mp h;exact⟨XN C.mono C.units (S.e X c Ξ C _ _ ha) (S.e X c Ξ C _ _ hb) (S.e X c Ξ C _ _ hd) (by simpa using hm),Yc C.mono C.units (S.e X c Ξ C _ _ ha) (S.e X c Ξ C _ _ hb) (S.e X c Ξ C _ _ hd) (by simpa using hm)⟩
 ·cases h
theorem Pe{lo hi st:Option Expr}{p2:Pos}(h:AH r c a lo hi st=some m):PE X (.Subscript a (.Slice lo hi st p2) pos) (LE X.K Ξ (aP P m)):=by
 cases lo<;>cases hi<;>cases st<;>first|(cases h;done)|skip
 ·obtain⟨ma,ha,rfl⟩:=V5 S C h;exact XX C.mono ha
 ·obtain⟨ma,mb,ha,hb,rfl⟩:=V4 S C h;exact XY C.mono ha hb
 ·obtain⟨ma,mb,ha,hb,rfl⟩:=V4 S C h;exact XZ C.mono ha hb
theorem Rt(h:zz r c a b=some m):PE X (.Subscript a b pos) (LE X.K Ξ (aP P m)):=by
 unfold zz at h;rcases orElse_some h with h|h
 ·obtain⟨q,hq,h⟩:=ag.mp h;have eb:∃p,b=.Slice q.1 q.2.1 q.2.2 p:=by cases b<;>first|(cases hq;exact⟨_,rfl⟩)|cases hq
  obtain⟨p,rfl⟩:=eb;exact Pe S C h
 ·split at h
  ·rename_i hb;rcases orElse_some h with h|h
   ·obtain⟨kvs,hk,h⟩:=ag.mp h;obtain⟨mb,iE,rfl⟩:=ae.mp h;obtain⟨x,p,rfl,hg,hd,hk⟩:=GD hk;exact NO C.mono (C.p7 hg) (B5 hd).1 (C.su x kvs hk) (S.e X c Ξ C _ _ iE) (Fq hb)
   ·obtain⟨ma,mb,ha,iE,rfl⟩:=V4 S C h;exact yz C.mono (CZ (Ra C.units) ha iE (Fq hb))
  ·cases h
theorem Pf(hg:c.gl x=true)(h:wc r c x e=some m):PE X (.Call (.Name x px) [e] [] pos) (LE X.K Ξ (aP P m)):=by
 unfold wc at h;obtain⟨q,hq,h'⟩:=ag.mp h;clear h;have h:=h';clear h';obtain⟨p,pos',rfl⟩:=U2 hq;obtain⟨y,as⟩:=q;dsimp only at h ⊢;split at h
 ·rename_i hc;simp only[Bool.and_eq_true,decide_eq_true_eq] at hc;obtain⟨⟨⟨⟨rfl,rfl⟩,hl⟩,hr⟩,pV⟩:=hc;rcases as with _|⟨a,_|⟨b,_|⟨_,_⟩⟩⟩
  ·cases h
  ·dsimp only at h;split at h
   ·rename_i ho;obtain⟨ma,ha,rfl⟩:=V5 S C h;exact XQ C.mono C.calm ha (C.p7 hg) (C.blt _ hl) (C.p7 pV) (C.blt _ hr) (i7 ho)
   ·cases h
  ·dsimp only at h;split at h
   ·rename_i ho;rw[aZ] at ho;obtain⟨ma,mb,ha,hb,rfl⟩:=V4 S C h;exact XR C.mono C.calm ha hb (C.p7 hg) (C.blt _ hl) (C.p7 pV) (C.blt _ hr) (by rw[i7 ho.1,i7 ho.2];rfl) (i7 ho.2)
   ·cases h
  ·cases h
 ·split at h
  ·rename_i hc;simp only[Bool.and_eq_true,decide_eq_true_eq] at hc;obtain⟨⟨⟨⟨rfl,rfl⟩,hl⟩,hr⟩,pV⟩:=hc;rcases as with _|⟨a,_|⟨_,_⟩⟩
   ·cases h
   ·dsimp only at h;split at h
    ·rename_i ho;obtain⟨ma,ha,rfl⟩:=V5 S C h;exact NS C.mono C.calm ha (C.p7 hg) (C.blt _ hl) (C.p7 pV) (C.blt _ hr) (i7 ho)
    ·cases h
   ·cases h
  ·split at h
   ·rename_i hc;simp only[Bool.and_eq_true,decide_eq_true_eq] at hc;obtain⟨⟨⟨⟨rfl,rfl⟩,hl⟩,hr⟩,pV⟩:=hc;rcases as with _|⟨a,_|⟨_,_⟩⟩
    ·cases h
    ·dsimp only at h;split at h
     ·rename_i ho;obtain⟨ma,ha,rfl⟩:=V5 S C h;exact NP C.mono C.calm ha (C.p7 hg) (C.blt _ hl) (C.p7 pV) (C.blt _ hr) (i7 ho)
     ·cases h
    ·cases h
   ·cases h
theorem MZ(h:FL r c x args=some m):PE X (.Call (.Name x px) args [] pos) (LE X.K Ξ (aP P m)):=by
 cases args with
 |nil =>
  have h2:yE c x=some m:=h;unfold yE at h2;split at h2
  ·rename_i gq;rw[aZ] at gq;rcases orElse_some h2 with h2|h2
   ·obtain⟨f,hf,rfl⟩:=ae.mp h2;obtain⟨k,fa,fd,ps,F,hr,hm,hk⟩:=C.fns x f hf;exact XM C.mono C.pass F hr (C.p7 gq.2) hm hk (B5 gq.1).1
   obtain⟨f,hf,rfl⟩:=ae.mp h2;obtain⟨k,C',fa,fd,ps,F,hr,hm,hC,gN,M⟩:=C.cls x f hf;exact XS C.mono C.pass F M hC gN hr (C.p7 gq.2) hm (B5 gq.1).1
  ·cases h2
 |cons e es =>
  have h0:yF r c x e es=some m:=h;clear h;have h:=h0;clear h0;unfold yF at h;split at h
  ·rename_i gq;rw[aZ] at gq;obtain⟨d1,d2,d3⟩:=B5 gq.1;rcases orElse_some h with h|h
   ·cases es with
    |nil=>exact Pf S C gq.2 h
    |cons _ _=>cases h
   ·obtain⟨ms,nG,h⟩:=ag.mp h;have ok:=yX nG;have pa:=pO S C nG;have ei:=i7 (env:=X.env) (es:=es) (ok e (by simp));have fO:=L3 (pos:=pos) (env:=X.env) (es:=es) λz hz=>ok z (by simp[hz]);rcases orElse_some h with h|h
    ·obtain⟨f,hf,rfl⟩:=ae.mp h;obtain⟨k,fa,fd,ps,F,hr,hm,hk⟩:=C.fns x f hf;exact NK C.mono C.pass F hr (C.p7 gq.2) hm hk pa d1 ei fO
    ·rcases orElse_some h with h|h
     ·obtain⟨f,hf,rfl⟩:=ae.mp h;obtain⟨k,C',fa,fd,ps,F,hr,hm,hC,gN,M⟩:=C.cls x f hf;exact NQ C.mono C.pass F M hC gN hr (C.p7 gq.2) hm pa d1 ei fO
     ·split at h
      ·rename_i hb;obtain⟨p,hp,rfl⟩:=ae.mp h;obtain⟨v,hv,xE,hc⟩:=Tu (X:=X) C.calm hp;exact Lp C.mono hv hc (C.p7 gq.2) (C.blt x hb) xE pa d3 d1 ei fO
      ·cases h
  ·cases h
omit S in
theorem GJ{m:Str}:yH X P Ξ.1 m (c.meths m):=λy f C' h hC=>by
 have hm:=aH h;unfold c8.meths at hm;obtain⟨⟨m',y',f'⟩,h1,h2⟩:=aC.mp hm;obtain⟨h3,h4⟩:=cy.mp h1;cases h2;have:m'=m:=by simpa using h4
 subst this;exact C.mh m' y f C' h3 hC
theorem MY{mt:Str}{apos:Pos}(h:yG r c o mt apos pos args=some m):PE X (.Call (.Attribute o mt apos) args [] pos) (LE X.K Ξ (aP P m)):=by
 unfold yG at h;split at h
 ·rename_i hc;simp only[Bool.and_eq_true,decide_eq_true_eq] at hc;obtain⟨⟨hb,hl⟩,hn⟩:=hc;obtain⟨mo,ho,h⟩:=ag.mp h;obtain⟨ms,nG,h⟩:=ag.mp h;have ok:=yX nG;have pa:=pO S C nG;have po:=S.e X c Ξ C _ _ ho;have hf:methodCallForm args.length (backTo pos (starEach args X.env)) (backToKw pos (keywordEach [] X.env))=true:=by
   unfold methodCallForm;rw[DC ok];have:args.length+0<30:=by omega
   show(true&&true&&decide (args.length+0<30))=true;rw[aT this]
   rfl
  by_cases rO:mt="index"
  ·subst rO;rw[aK rfl] at h;cases args with
   |nil=>cases h
   |cons e es =>
    cases h;exact XO C.mono po pa (C0 hb) hf hl (i7 (env:=X.env) (es:=es) (ok e (by simp))) (L3 (pos:=pos) (env:=X.env) (es:=es) λz hz=>ok z (by simp[hz]))
  rw[aD rO] at h;by_cases uB:(decide (mt="pop")&&CY o&&!args.isEmpty)=true
  ·rw[aK uB] at h;obtain rfl:=aB h;clear h;simp only[Bool.and_eq_true,decide_eq_true_eq] at uB;obtain⟨⟨rfl,_⟩,eR⟩:=uB;cases args with
   |nil=>cases eR
   |cons e es =>
    exact Gq C.mono pK uh PySem.F.type_dict_pop MA (λR r h=>ty_dict R r h) po pa (C0 hb) hf hl (i7 (env:=X.env) (es:=es) (ok e (by simp))) (L3 (pos:=pos) (env:=X.env) (es:=es) λz hz=>ok z (by simp[hz]))
  rw[aD uB] at h;cases args with
  |nil =>
   cases nG;by_cases h0:(U9.lookup mt).isSome=true
   ·rw[aK (by rw[h0];rfl)] at h;obtain⟨p,hp,rfl⟩:=ae.mp h;obtain⟨T,id,wC,sl,ty,wH,hk⟩:=Vm (X:=X) hp;exact XT C.mono wC sl ty wH hk po (C0 hb) hl
   rw[aD (by rw[aZ];exact λz=>h0 z.2)] at h;split at h
   ·cases h
   ·cases h;exact UI C.mono C.pass (GJ C) po (Ee hb hl hf)
  |cons e es =>
   have ei:=i7 (env:=X.env) (es:=es) (ok e (by simp));have fO:=L3 (pos:=pos) (env:=X.env) (es:=es) λz hz=>ok z (by simp[hz]);rw[aD (by simp)] at h;split at h
   ·rename_i p hp;cases h;obtain⟨T,id,wC,sl,ty,wH,hk⟩:=Uk (X:=X) C.units hp;exact Gq C.mono wC sl ty wH hk po pa (C0 hb) hf hl ei fO
   ·cases h;exact XU C.mono C.pass (GJ C) po pa ei fO (Ee hb hl hf)
 ·cases h
theorem Bf{tg:Expr}(h:sW r c tg e=some m):PI X tg e (LI X.K Ξ (hX P m)):=by
 unfold sW at h;rcases orElse_some h with h|h
 ·obtain⟨q,hq,h'⟩:=ag.mp h;rename_i h0;clear h h0;have h:=h';clear h';obtain⟨p,pos',rfl⟩:=U2 hq;obtain⟨y,as⟩:=q;dsimp only at h ⊢;split at h
  ·rename_i hy;subst hy;rcases as with _|⟨a,_|⟨_,_⟩⟩
   ·cases h
   ·dsimp only at h;split at h
    ·rename_i hc;simp only[Bool.and_eq_true] at hc;obtain⟨⟨⟨hg,hb⟩,ho⟩,ht⟩:=hc;obtain⟨ma,ha,rfl⟩:=ae.mp h;obtain⟨es,k,tp,rfl⟩:=Tt ht;exact NX C.mono (S.e X c Ξ C _ _ ha) (C.p7 hg) (C.blt _ hb) (i7 ho)
    ·cases h
   ·cases h
  ·split at h
   ·rename_i hy;subst hy;rcases as with _|⟨a,_|⟨_,_⟩⟩
    ·cases h
    ·dsimp only at h;split at h
     ·rename_i hc;simp only[Bool.and_eq_true] at hc;obtain⟨⟨hg,hb⟩,ho⟩:=hc;obtain⟨ma,ha,rfl⟩:=ae.mp h;exact LB C.mono (S.e X c Ξ C _ _ ha) (C.p7 hg) (C.blt _ hb) (i7 ho)
     ·cases h
    ·cases h
   split at h
   ·rename_i hy;subst hy;rcases as with _|⟨a,_|⟨b,_|⟨_,_⟩⟩⟩
    ·cases h
    ·dsimp only at h;split at h
     ·rename_i hc;simp only[Bool.and_eq_true] at hc;obtain⟨⟨hg,hb⟩,ho⟩:=hc;obtain⟨ma,ha,rfl⟩:=ae.mp h;exact NY C.mono (S.e X c Ξ C _ _ ha) (C.p7 hg) (C.blt _ hb) (i7 ho)
     ·cases h
    ·dsimp only at h;split at h
     ·rename_i hc;simp only[Bool.and_eq_true] at hc;obtain⟨⟨⟨hg,hb⟩,ho⟩,jN⟩:=hc;obtain⟨ma,ha,h⟩:=ag.mp h;obtain⟨mb,iE,rfl⟩:=ae.mp h;exact NZ C.mono (S.e X c Ξ C _ _ ha) (S.e X c Ξ C _ _ iE) (C.p7 hg) (C.blt _ hb) (by rw[i7 ho,i7 jN];rfl) (i7 jN)
     ·cases h
    ·cases h
   ·cases h
 ·split at h
  ·obtain⟨ma,ha,rfl⟩:=ae.mp h;exact LC C.mono (S.e X c Ξ C _ _ ha)
  ·cases h
omit S in
theorem vO(h:c.nX e i=true):∃x p,e=.Name x p/\PE X e (nY i):=by
 unfold c8.nX at h;cases e<;>first|(cases h;done)|skip
 rename_i x p;have h:(P8 x&&c.oq x&&decide (c.idx x=some i))=true:=h;simp only[Bool.and_eq_true,decide_eq_true_eq] at h;obtain⟨⟨h1,h2⟩,h3⟩:=h;obtain⟨d1,d2,_⟩:=B5 h1;exact⟨x,p,rfl,Fv (C.nV h3) (C.Dk h2) d1 d2⟩
omit S in
theorem Pc{ifs:List Expr}(h:AI c ifs=true):jf X ifs (tD (nz (wz X.K true) (nY 0) (nY 3))):=by
 rcases ifs with _|⟨e,_|⟨_,_⟩⟩
 ·cases h
 ·cases e<;>first|(cases h;done)|skip
  rename_i a ops bs p;have h:(decide (ops=[.NotIn])&&c.nX a 0&&AJ c bs)=true:=h;simp only[Bool.and_eq_true,decide_eq_true_eq] at h;obtain⟨⟨rfl,h1⟩,h2⟩:=h;rcases bs with _|⟨b,_|⟨_,_⟩⟩<;>first|(cases h2;done)|skip
  have h2:c.nX b 3=true:=h2;obtain⟨_,_,rfl,p1⟩:=vO C h1;obtain⟨_,_,rfl,p2⟩:=vO C h2;exact Gi (yU SF p1 p2 rfl)
 ·cases h
theorem Pb{kx vx:Expr}{gens:List Comprehension}(h:wg r c kx vx gens sc=some m):PE X (.DictComp kx vx gens sc pos) (LE X.K Ξ (aP P m)):=by
 unfold wg at h;rcases gens with _|⟨⟨tg,it,ifs,rh⟩,_|⟨_,_⟩⟩
 ·cases h
 ·dsimp only at h;split at h
  ·rename_i hs;simp only[Bool.and_eq_true,decide_eq_true_eq] at hs;obtain⟨⟨⟨⟨⟨hs,rfl⟩,h3⟩,hk⟩,hv⟩,ht⟩:=hs;obtain⟨q,hq,h⟩:=ag.mp h;obtain⟨w,hw,h⟩:=ag.mp h;split at h
   ·rename_i hx;simp only[Bool.and_eq_true,decide_eq_true_eq] at hx;obtain⟨⟨⟨⟨x1,x2⟩,x3⟩,x4⟩,x5⟩:=hx;obtain⟨es,he,h⟩:=ag.mp h;split at h
    ·rename_i oI;have oI:=aQ oI;split at h
     ·rename_i j hj;obtain⟨mo,Bu,rfl⟩:=ae.mp h;obtain⟨cl,Sc,I⟩:=C.comp hs;rw[hj] at Sc;cases it with
      |Call f as ks ip =>
       cases hq;have hw:CD f=some w:=hw;cases f with
       |Attribute o mm ap =>
        cases hw;cases tg with
        |Tuple uL kk tp =>
         cases he;obtain rfl:=Zz.mp x1;obtain rfl:=Zz.mp x2;dsimp only at x3 x4 x5 Bu;subst x3;exact NL C.mono Sc h3 C.calm (S.e X c Ξ C _ _ Bu) (C0 x4) x5 (λpins A s H fp=>Fw (I pins A s H fp).calm (Eg (I pins A s H fp).nE ((I pins A s H fp).slots oI)) (M6 ((I pins A s H fp).slots oI)).1 (M6 ((I pins A s H fp).slots oI)).2) (λpins A s H fp=>Pc (I pins A s H fp) ht)
          (λpins A s H fp=>let ⟨_,_,_,z⟩:=vO (I pins A s H fp) hk;z) (λpins A s H fp=>let ⟨_,_,_,z⟩:=vO (I pins A s H fp) hv;z)
        |_=>cases he
       |_=>cases hw
      |_=>cases hq
     ·cases h
    ·cases h
   ·cases h
  ·cases h
 ·cases h
theorem yT{elt:Expr}{gens:List Comprehension}(h:V7 r c elt gens sc=some m):∃tg it ifs t mi mc me cl,gens=[⟨tg,it,ifs,0⟩]/\m=.comp (c.a9 sc) (frees sc++locals sc).length t mi mc me/\fo it=true /\
  cx X sc (frees sc++locals sc) (c.a9 sc) cl/\PI X tg it (LI X.K Ξ (hX P mi))/\(∀pins A s H fp,PG (a5 X pins sc (frees sc++locals sc) cl A s H fp) tg (LG X.K t)) /\
   (∀pins A s H fp,jf (a5 X pins sc (frees sc++locals sc) cl A s H fp) ifs (LT X.K (mB Ξ.1) (dq P mc)))/\(∀pins A s H fp,PE (a5 X pins sc (frees sc++locals sc) cl A s H fp) elt (LE X.K (mB Ξ.1) (aP P me))):=by
 unfold V7 at h;rcases gens with _|⟨⟨tg,it,ifs,rh⟩,_|⟨_,_⟩⟩
 ·cases h
 ·dsimp only at h;split at h
  ·rename_i hs;simp only[Bool.and_eq_true,decide_eq_true_eq] at hs;obtain⟨⟨hs,rfl⟩,hit⟩:=hs;obtain⟨t,h1,h⟩:=ag.mp h;obtain⟨mi,h2,h⟩:=ag.mp h;obtain⟨mc,h3,h⟩:=ag.mp h;obtain⟨me,h4,rfl⟩:=ae.mp h;obtain⟨cl,Sc,I⟩:=C.comp hs;exact⟨tg,it,ifs,t,mi,mc,me,cl,rfl,rfl,hit,Sc,Bf S C h2,λpins A s H fp=>(I pins A s H fp).Ct h1,λpins A s H fp=>Ph S (I pins A s H fp) h3,λpins A s H fp=>S.e _ _ _ (I pins A s H fp) elt me h4⟩
  ·cases h
 ·cases h
omit S in
theorem Pd{f:Expr}{iw:List Keyword}(h:uk c f args iw=some m):PE X (.Call f args iw pos) (LE X.K Ξ (aP P m)):=by
 unfold uk at h;cases h
theorem HL:∀e m,Df r c e=some m->PE X e (LE X.K Ξ (aP P m)):=by
 intro e m h;cases e with
 |Name x p=>exact Kq C h
 |Constant k j p =>
  obtain⟨d,hd,rfl⟩:=ae.mp (show(Z2 k).map ME.lit=some m from h);exact wG hd
 |BinOp a op b p =>
  obtain⟨ma,mb,ha,hb,rfl⟩:=V4 S C h;exact yz C.mono (RG (Kt op) ha hb)
 |UnaryOp op a p=>exact Pj S C h
 |Compare a ops bs p=>exact(CV S C h).1
 |BoolOp op vs p=>exact HN S C h
 |IfExp t a b p =>
  obtain⟨mt,ht,h⟩:=ag.mp h;obtain⟨ma,ha,h⟩:=ag.mp h;obtain⟨mb,hb,rfl⟩:=ae.mp h;exact Lu C.mono (S.t X c Ξ C _ _ ht) (S.e X c Ξ C _ _ ha) (S.e X c Ξ C _ _ hb)
 |Tuple es k p =>
  obtain⟨ma,ha,rfl⟩:=ae.mp h;exact Lw C.mono (pO S C ha)
 |List es p =>
  obtain⟨ma,ha,rfl⟩:=ae.mp h;exact FA C.mono (pO S C ha)
 |Subscript a b p=>exact Rt S C h
 |Dict ks vs p =>
  have h2:(if ks.isEmpty&&vs.isEmpty then some (ME.prim .N7 .nil) else if decide (ks.length<=15) then(sU r c ks vs).map .mz else none)=some m:=h;split at h2
  ·rename_i hc;cases ks<;>cases vs<;>first|(cases hc;done)|skip
   cases h2;exact NM
  ·rename_i hc;split at h2
   ·rename_i hl;obtain⟨ms,hm,rfl⟩:=ae.mp h2;obtain⟨gF,D⟩:=HM S C hm;refine Lq C.mono D (λz=>hc ?_) (aQ hl);have:=D.len.2;subst z;cases vs<;>first|rfl|cases this
   ·cases h2
 |JoinedStr vs p =>
  have h2:(if decide (2<=vs.length)&&decide (vs.length<=40) then(qm r c vs).map (ME.prim .lS) else none)=some m:=h;split at h2
  ·rename_i hc;simp only[Bool.and_eq_true,decide_eq_true_eq] at hc;obtain⟨ms,hm,rfl⟩:=ae.mp h2;obtain⟨ts,F⟩:=HK S C hm;rcases vs with _|⟨v1,_|⟨v2,vs⟩⟩
   ·simp at hc
   ·simp at hc
   ·exact NN C.mono F hc.2
  ·cases h2
 |Attribute o f p =>
  have h2:(if U7 o then c1 r c (.fld f) o else none)=some m:=h;split at h2
  ·rename_i hb;obtain⟨ma,ha,rfl⟩:=V5 S C h2;exact Lr C.mono ha (C0 hb)
  ·cases h2
 |Call f args iw pos =>
  have h1:((we r c f args iw).orElse λ_=>(uk c f args iw).orElse λ_=>zR r c f args iw pos)=some m:=h;rcases orElse_some h1 with h2|h2
  ·unfold we at h2;rcases args with _|⟨a,_|⟨_,_⟩⟩
   ·cases h2
   ·dsimp only at h2;split at h2
    ·rename_i hk;simp only[Bool.and_eq_true,decide_eq_true_eq] at hk;obtain⟨⟨⟨hk,hf⟩,lL⟩,hb⟩:=hk;cases iw<;>first|(cases hk;done)|skip
     obtain⟨q,hq,h3⟩:=ag.mp h2;obtain⟨m1,h4,h5⟩:=ag.mp h3;cases f<;>first|(cases hf;done)|skip
     cases a<;>first|(cases hq;done)|skip
     cases hf;cases hq;obtain⟨tg,it,ifs,t,mi,mc,me,cl,eg,rfl,hit,Sc,q1,q2,q3,q4⟩:=yT S C h4;dsimp only at eg;subst eg;cases h5;exact XW C.mono Sc C.calm q1 q2 q3 q4 (X7 hit) (C.p7 lL) (C.blt _ hb)
    ·cases h2
   ·cases h2
  clear h h1;rcases orElse_some h2 with h3|h3
  ·exact Pd C h3
  clear h2;unfold zR at h3;split at h3
  ·rename_i hk;cases iw<;>first|(cases hk;done)|skip
   cases f with
   |Name x p=>exact MZ S C h3
   |Attribute o a p=>exact MY S C h3
   |_=>cases h3
  ·cases h3
 |Set es k p =>
  have h2:zy c es k=some m:=h;unfold zy at h2;split at h2
  ·rename_i hc;rw[aZ] at hc;obtain rfl:=aQ hc.2;split at h2
   ·cases h2;exact NR C.mono (C.code hc.1)
   ·cases h2
  ·cases h2
 |ListComp elt gens sc p =>
  obtain⟨tg,it,ifs,t,mi,mc,me,cl,rfl,rfl,hit,Sc,q1,q2,q3,q4⟩:=yT S C h;exact(Gf Sc C.calm q1 q2 q3 q4 (X7 hit)).imp λZ H Q h=>GA C.mono Z H Q h
 |_=>cases h
theorem HI:∀e m,stepT r c e=some m->PT X e (LT X.K Ξ (dq P m)):=by
 intro e m h;have plain:∀{e:Expr} {m:ME},(if zw e then(r.e c e).map ME.dE else none)=some m->PT X e (LT X.K Ξ (dq P m)):=λ{e m} h=>by
  split at h
  ·rename_i hp;obtain⟨ma,ha,rfl⟩:=ae.mp h;exact LM C.mono (S.e X c Ξ C _ _ ha) (UB hp)
  ·cases h
 cases e with
 |UnaryOp op a p =>
  have h2:(if op=.Not then(r.t c a).map ME.cG else none)=some m:=h;split at h2
  ·rename_i ho;subst ho;obtain⟨ma,ha,rfl⟩:=ae.mp h2;exact LK C.mono (S.t X c Ξ C _ _ ha)
  ·cases h2
 |BoolOp op vs p=>exact(HH S C h).pt
 |Compare a ops bs p =>
  obtain⟨ma,ha,rfl⟩:=ae.mp (show(sR r c a ops bs).map ME.dE=some m from h);exact(CV S C ha).2
 |_=>exact plain h
end
section
theorem Gz(h:CM e=some m):PE X e (LE X.K Ξ (aP P m))/\fo e=true:=by
 cases e<;>first|(cases h;done)|skip
 obtain⟨d,hd,rfl⟩:=ae.mp (show(Z2 _).map ME.lit=some m from h);exact⟨wG hd,rfl⟩
theorem TH(hP:i6 P):∀{es:List Expr} {m:ME},vc es=some m->PA X es (LA X.K Ξ (eN P m)):=by
 intro es
 induction es with
 |nil=>intro m h;cases h;exact F6 hP
 |cons e es ih =>
  intro m h;unfold vc at h;obtain⟨m1,h1,h⟩:=ag.mp h;obtain⟨m2,h2,rfl⟩:=ae.mp h;exact u5 hP (Gz h1).1 (ih h2) (i7 (Gz (X:=X) (Ξ:=Ξ) (P:=P) h1).2)
theorem WM(hP:i6 P)(h:CL e=some m):PE X e (LE X.K Ξ (aP P m)):=by
 cases e<;>first|(cases h;done)|skip
 ·obtain⟨d,hd,rfl⟩:=ae.mp (show(Z2 _).map ME.lit=some m from h);exact wG hd
 ·obtain⟨ms,hm,rfl⟩:=ae.mp h;exact FA hP (TH hP hm)
theorem US{h:ExceptHandler}{q:Str×Expr}(hq:zT h=some q):∃p p1 p2,h=.ExceptHandler (some (.Name q.1 p)) none [.Return (some q.2) p1] p2:=by
 obtain⟨t,n,b,p0⟩:=h;unfold zT at hq;cases n with
 |some _=>cases hq
 |none =>
  obtain⟨t,rfl,hq⟩:=ag.mp (show t.bind _=some q from hq);obtain⟨y,hy,hq⟩:=ag.mp hq;obtain⟨e,he,rfl⟩:=ae.mp hq;obtain⟨p,rfl⟩:=Z4 hy;rcases b with _|⟨s,_|⟨_,_⟩⟩
  ·cases he
  ·cases s<;>first|(cases he;done)|(cases he;exact⟨_,_,_,rfl⟩)
  ·cases he
theorem WL(C:gk X c P Ξ)(xu:tE X Ξ.2):∀{hs:List ExceptHandler} {ms:List (Str×ME)},sV c hs=some ms->kI X Ξ P hs ms:=by
 intro hs
 induction hs with
 |nil=>intro ms h;cases h;exact .nil xu
 |cons hd hs ih =>
  intro ms h;unfold sV at h;obtain⟨q,hq,h'⟩:=ag.mp h;clear h;have h:=h';clear h';obtain⟨p,p1,p2,rfl⟩:=US hq;obtain⟨y,e⟩:=q;dsimp only at h ⊢;split at h
  ·rename_i hc;simp only[Bool.and_eq_true] at hc;obtain⟨m,h1,h⟩:=ag.mp h;obtain⟨YT,h2,rfl⟩:=ae.mp h;obtain⟨C',hm,hi,_⟩:=C.exc y hc.1.1;refine .cons (C.p7 hc.1.2) (B5 hc.2).1 hm (λx C1 hx h1=>C.yj x y C1 C' ?_ hc.1.1 h1 hi) (λea=>WM (X:=A9 X ea) C.mono h1) (ih h2);rw[C.uK] at hx;simpa using hx
  ·cases h
theorem VI{e f:Option Expr}{q:Str×Expr×List Expr}(h:yL e f=some q):f=none/\∃p p',e=some (.Call (.Name q.1 p) (q.2.1::q.2.2) [] p'):=by
 unfold yL at h;cases f with
 |some _=>cases h
 |none =>
  obtain⟨t,rfl,h⟩:=ag.mp (show e.bind _=some q from h);obtain⟨z,hz,h⟩:=ag.mp h;obtain⟨p,p',rfl⟩:=U2 hz;obtain⟨x,as⟩:=z;cases as with
  |nil=>cases h
  |cons a as=>cases h;exact⟨rfl,_,_,rfl⟩
theorem Ut(h:c.uY es e=true):∃x px y py a b k p,es=[.Name x px,.Name y py]/\e=.Tuple [a,b] k p/\c.Ao x px y py a b=true:=by
 rcases es with _|⟨s,_|⟨t,_|⟨_,_⟩⟩⟩
 ·cases h
 ·cases h
 ·cases s<;>first|(cases h;done)|skip
  cases t<;>first|(cases h;done)|skip
  cases e<;>first|(cases h;done)|skip
  rename_i l _ _;rcases l with _|⟨a,_|⟨b,_|⟨_,_⟩⟩⟩
  ·cases h
  ·cases h
  ·exact⟨_,_,_,_,_,_,_,_,rfl,rfl,h⟩
  ·cases h
 ·cases h
theorem FQ(C:gk X c P Ξ){f:Str}:vb X.K f (c.tQ f):=λy C' h hC=>by
 unfold c8.tQ at h;obtain⟨⟨f',y'⟩,h1,h2⟩:=aC.mp h;obtain⟨h3,h4⟩:=cy.mp h1;cases h2;have:f'=f:=by simpa using h4
 subst this;exact C.mx f' y' C' h3 hC
variable(S:og P r)(C:gk X c P Ξ)
include S C
theorem Rq{tg:Expr}{m:MS}(hS:∀e m,r.e c e=some m->t6 e=false->∃elt gens sc p,e=.ListComp elt gens sc p/\∃r',og P r'/\V7 r' c elt gens sc=some m)(hT:∀a b k p m,r.e c (.Tuple [a,b] k p)=some m->∃r' ms,og P r'/\E9 r' c [a,b]=some ms/\m=.prim .tup ms)(h:Cp r c tg e=some m):PS X (.Assign [tg] e pos) (LS X.K Ξ (wpS P m)):=by
 cases tg with
 |Name x px =>
  have h2:(if c.t4 x then(c.idx x).bind λi=>(r.e c e).map λm=>MS.set i m else none)=some m:=h;split at h2
  ·rename_i hl;obtain⟨i,hi,h2⟩:=ag.mp h2;obtain⟨me,he,rfl⟩:=ae.mp h2;cases hn:t6 e with
   |true=>exact FE C.mono (Fy C.nE (C.nV hi) (C.t4 hl).1 (S.e X c Ξ C _ _ he) (zu hn) (C.t4 hl).2)
   |false =>
    obtain⟨elt,gens,sc,p,rfl,r',S',hx⟩:=hS e me he hn;obtain⟨tg,it,ifs,t,mi,mc,me,cl,rfl,rfl,hit,Sc,q1,q2,q3,q4⟩:=yT S' C hx;refine FE C.mono ?_;exact(Wg Sc C.calm q1 q2 q3 q4 (X7 hit) C.nE (C.nV hi) (C.t4 hl).1 (C.t4 hl).2).imp λN Z H h=>GA C.mono Z H _ h
  ·cases h2
 |Tuple es k pt =>
  have h0:((zU es).elim (if(qr e&&t6 e)||c.uY es e then(c.slots es).bind λis=>(r.e c e).map λm=>MS.kM (.many is) m else none) λq=>if t6 e&&fo q.2.1&&fo q.2.2.2 then(r.e c q.1).bind λm1=>(r.e c q.2.1).bind λn1=>(r.e c q.2.2.1).bind λm2=>(r.e c q.2.2.2).bind λn2=>(r.e c e).map λm=>MS.ur m1 n1 m2 n2 m else none)=some m:=h;cases hq:zU es with
  |some q =>
   rw[hq] at h0;dsimp only[Option.elim] at h0;split at h0
   ·cases hq
   ·cases h0
  |none =>
  rw[hq] at h0;have h2:(if(qr e&&t6 e)||c.uY es e then(c.slots es).bind λis=>(r.e c e).map λm=>MS.kM (.many is) m else none)=some m:=h0;split at h2
  ·rename_i hn;rw[fm,aZ] at hn;obtain⟨is,hs,h2⟩:=ag.mp h2;obtain⟨me,he,rfl⟩:=ae.mp h2;rcases hn with hn|hn
   ·exact LW C.mono (Fx (S.e X c Ξ C _ _ he) (Gu C.calm C.nE (C.slots hs)) (EV hn.2) (Xi hn.1))
   ·obtain⟨x,px,y,py,a,b,k2,nD,rfl,rfl,hk⟩:=Ut hn
    ·unfold c8.Ao at hk;simp only[Bool.and_eq_true,decide_eq_true_eq,Bool.not_eq_true'] at hk;obtain⟨⟨⟨⟨⟨⟨⟨l1,l2⟩,eR⟩,hl⟩,oa⟩,ob⟩,f1⟩,f2⟩:=hk;obtain⟨r',ms,S',nG,rfl⟩:=hT _ _ _ _ _ he;have so:=C.slots hs;cases so with
     |cons hi _ _ so =>
     cases so with
     |cons hj _ _ so =>
     cases so;exact LU C.mono C.calm C.nE hi hj eR hl (C.loc x l1) (C.loc y l2) oa ob f1 f2 (pO S' C nG)
  ·cases h2
 |Subscript o i pt =>
  have h2:(if fo i&&t6 e then(r.e c o).bind λmo=>(r.e c i).bind λmi=>(r.e c e).map λm=>MS.cF mo mi m else none)=some m:=h;split at h2
  ·rename_i hn;rw[aZ] at hn;obtain⟨mo,ho,h2⟩:=ag.mp h2;obtain⟨mi,hi,h2⟩:=ag.mp h2;obtain⟨me,he,rfl⟩:=ae.mp h2;exact Yg C.mono C.units (S.e X c Ξ C _ _ he) (S.e X c Ξ C _ _ ho) (S.e X c Ξ C _ _ hi) (EV hn.2) (Nc hn.1)
  ·cases h2
 |Attribute o f pt =>
  obtain⟨mo,ho,h⟩:=ag.mp h;obtain⟨me,he,rfl⟩:=ae.mp h;exact Oh C.mono (FQ C) (S.e X c Ξ C _ _ ho) (by cases e<;>first|exact Pb S C he|exact S.e X c Ξ C _ _ he) (by cases e<;>rfl)
 |_=>cases h
theorem HJ(hS:∀e m,r.e c e=some m->t6 e=false->∃elt gens sc p,e=.ListComp elt gens sc p/\∃r',og P r'/\V7 r' c elt gens sc=some m)(hT:∀a b k p m,r.e c (.Tuple [a,b] k p)=some m->∃r' ms,og P r'/\E9 r' c [a,b]=some ms/\m=.prim .tup ms) :
  ∀st m,Dg r c st=some m->PS X st (LS X.K Ξ (wpS P m)):=by
 intro st m h;have hP:=C.mono;cases st with
 |AugAssign tg op e p =>
  cases tg with
  |Attribute o f tp =>
   have h2:(if decide (op=Operator.Add) then(r.e c o).bind λmo=>(r.e c e).map λm=>MS.jy f (c.tQ f) mo m else none)=some m:=h;split at h2
   ·rename_i ho;obtain rfl:=aQ ho;obtain⟨mo,ho,h2⟩:=ag.mp h2;obtain⟨me,he,rfl⟩:=ae.mp h2;exact Oe C.mono (FQ C) (S.e X c Ξ C _ _ ho) (S.e X c Ξ C _ _ he)
   ·cases h2
  |Name x tp =>
   have h2:(if c.t4 x then(CI op).bind λp=>(c.idx x).bind λi=>(r.e c e).map λm=>MS.jx i p m else none)=some m:=h;split at h2
   ·rename_i hl;obtain⟨p,hp,h2⟩:=ag.mp h2;obtain⟨i,hi,h2⟩:=ag.mp h2;obtain⟨me,he,rfl⟩:=ae.mp h2;refine Of C.mono ?_ C.nE (C.nV hi) (C.t4 hl).1 (C.t4 hl).2 (S.e X c Ξ C _ _ he);cases op<;>first|(cases hp;done)|skip
    ·cases hp;exact .inl ⟨rfl,rfl⟩
    ·cases hp;exact .inr ⟨rfl,rfl⟩
   ·cases h2
  |_=>cases h
 |Expr e p =>
  have h2:(if t6 e then(r.e c e).map MS.expr else none)=some m:=h;split at h2
  ·rename_i hn;obtain⟨me,he,rfl⟩:=ae.mp h2;exact Og hP (S.e X c Ξ C _ _ he) (zu hn)
  ·cases h2
 |Assign wo e p =>
  rcases wo with _|⟨tg,_|⟨_,_⟩⟩
  ·cases h
  ·exact Rq S C hS hT h
  ·cases h
 |If t a b p =>
  obtain⟨mt,ht,h⟩:=ag.mp h;obtain⟨ma,ha,h⟩:=ag.mp h;obtain⟨mb,hb,rfl⟩:=ae.mp h;exact Sb hP (S.t X c Ξ C _ _ ht) (qg S C ha) (qg S C hb)
 |For tg it body nh p =>
  have h2:(if c.kT&&(nh.isEmpty&&fo it) then(c.tg tg).bind λt=>(sW r c tg it).bind λmi=>(n6 r c body).map λmb=>MS.eA t mi mb else none)=some m:=h;split at h2
  ·rename_i hc;rw[aZ,aZ] at hc;cases nh<;>first|(cases hc.2.1;done)|skip
   obtain⟨t,h1,h2⟩:=ag.mp h2;obtain⟨mi,h3,h2⟩:=ag.mp h2;obtain⟨mb,h4,rfl⟩:=ae.mp h2;exact LR hP (C.own hc.1) C.calm (Bf S C h3) (C.Ct h1) (qg S C h4) (X7 hc.2.2)
  ·cases h2
 |While t body nh p =>
  have h2:(if c.kT&&nh.isEmpty then(r.t c t).bind λmt=>(n6 r c body).map λmb=>MS.iO mt mb else none)=some m:=h;split at h2
  ·rename_i hc;rw[aZ] at hc;cases nh<;>first|(cases hc.2;done)|skip
   obtain⟨mt,h1,h2⟩:=ag.mp h2;obtain⟨mb,h4,rfl⟩:=ae.mp h2;exact Yh hP (C.own hc.1) (S.t X c Ξ C _ _ h1) (qg S C h4)
  ·cases h2
 |Return e p =>
  cases e with
  |none=>cases h;exact(NA (X:=X)).imp λN bE H ⟨Z,g,ρ,s,R,h⟩=>LQ.now h R .bc
  |some e =>
   obtain⟨me,he,rfl⟩:=ae.mp (show(r.e c e).map (λm=>MS.ret (toR c e m))=some m from h);refine FD hP ?_;exact S.e X c Ξ C _ _ he
 |Raise e f p =>
  obtain⟨q,hq,h2⟩:=ag.mp h;clear h;obtain⟨rfl,px,p2,rfl⟩:=VI hq;obtain⟨x,e,es⟩:=q;dsimp only at h2 ⊢;split at h2
  ·rename_i hc;simp only[Bool.and_eq_true] at hc;obtain⟨ma,ha,rfl⟩:=ae.mp h2;have ok:=yX ha;obtain⟨C',hm,hi,B,nI,iI,bm,O,FB⟩:=C.exc x hc.1.1.2;exact Yf hP C.calm O FB (C.p7 hc.1.2) (pO S C ha) (C.iQ hc.1.1.1) (by rw[C.uK];simpa using hc.1.1.2) hi (i7 (ok e (by simp))) (L3 λz hz=>ok z (by simp[hz])) (B5 hc.2).1
  ·cases h2
 |Try body hs el fi p =>
  have h2:(if c.iu&&!hs.isEmpty&&el.isEmpty&&fi.isEmpty then(n6 r { c with iQ:=false,iu:=false } body).bind λmb=>(sV c hs).map λms=>MS.T7 mb ms else none)=some m:=h;split at h2
  ·rename_i hc;simp only[Bool.and_eq_true] at hc;obtain⟨⟨⟨ht,hh⟩,he⟩,hf⟩:=hc;cases el<;>first|(cases he;done)|skip
   cases fi<;>first|(cases hf;done)|skip
   cases hs<;>first|(cases hh;done)|skip
   obtain⟨mb,h1,h2⟩:=ag.mp h2;obtain⟨ms,h3,rfl⟩:=ae.mp h2;obtain⟨ei,hf,xu⟩:=C.iu ht;exact LV hP ei hf (λpins D=>qg S (C.T7 ei hf pins D _) h1) (WL C xu h3)
  ·cases h2
 |Pass p=>cases h;exact(Nz (X:=X)).imp λN bE H ⟨Z,g,ρ,s,R,h⟩=>h ρ H bE (.refl _ _) R s
 |_=>cases h
end
theorem VM(h:(comp (n+1)).e c e=some m)(hn:t6 e=false):∃elt gens sc p,e=.ListComp elt gens sc p/\V7 (comp n) c elt gens sc=some m:=by
 cases e<;>first|(cases hn;done)|(cases h;done)|exact⟨_,_,_,_,rfl,h⟩
theorem snd:∀n,(∀k,k<=n->og P (comp k)):=by
 intro n
 induction n with
 |zero =>
  intro k hk;obtain rfl:=Nat.le_zero.mp hk;exact⟨λ_ _ _ _ _ _ h=>(by cases h),λ_ _ _ _ _ _ h=>(by cases h),λ_ _ _ _ _ _ h=>(by cases h)⟩
 |succ n ih =>
  intro k hk;rcases Nat.lt_or_ge k (n+1) with dF|Za
  ·exact ih k (by omega)
  obtain rfl:k=n+1:=by omega
  have I:=ih n (aj n);refine⟨λX c Ξ C e m h=>HL I C e m h,λX c Ξ C e m h=>HI I C e m h,λX c Ξ C st m h=>?_⟩;rcases orElse_some h with h|h
  rotate_left
  ·cases h;exact λpins s Z H D I q=>by obtain⟨_,_,_,_,_,z⟩:=q;exact(show False from z).elim
  refine HJ I C (λe m he hn=>?_) (λa b k p m he=>?_) st m h
  ·cases n with
   |zero=>cases he
   |succ n =>
    obtain⟨elt,gens,sc,p,rfl,hx⟩:=VM he hn;exact⟨_,_,_,_,rfl,comp n,ih n (by omega),hx⟩
  ·cases n with
   |zero=>cases he
   |succ n =>
    obtain⟨ms,hm,rfl⟩:=ae.mp (show(E9 (comp n) c [a,b]).map (ME.prim .tup)=some m from he);exact⟨comp n,ms,ih n (by omega),hm,rfl⟩
structure nj where
 nm:Str
 qn:Str
 N:List Str
 ps:List Str
 st:Stmt
def c8.at(c:c8)(d:nj):c8:={ c with N:=d.N,nm:=(j9 d.st).names,kT:=true,iQ:=true,iu:=true }
structure iG(K:PySem.W.Frag)(c:c8)(d:nj)(m:aJ)(f:Addr)(fd:FuncData):Prop where
 fn:oi K d.nm d.qn d.st f fd
 bi:Binds K fd d.ps []
 sc:gW d.N d.ps (j9 d.st)
 co:n6 (comp 60) (c.at d) (k7 d.st)=some m.body
 ar:m.ar=d.ps.length
 nn:m.n=d.N.length
structure lX(w:World)(K:PySem.W.Frag)(mg:Str->Option Value)(c:c8)(T:Nat->Option aJ):Prop where
 fns:∀x i,c.fns.lookup x=some i->∃d m f fd,T i=some m/\iG K c d m f fd/\mg x=some (.ref f)
 cls:∀x i,c.cls.lookup x=some i->∃C d m f fd,T i=some m/\iG K c d m f fd/\mg x=some (.ref C)/\k9 K x C/\ik K C/\Mk K C f
 mh:∀x y i C,(x,y,i)∈c.mh->k9 K y C->∃d m f fd,T i=some m/\iG K c d m f fd/\Meth K C x f
 mx:∀f y C,(f,y)∈c.mx->k9 K y C->q8 K C f
 con:∀x d,c.con.lookup x=some d->∃v u,mg x=some u/\RelV v u/\∀ρ H,b6 K ρ H d v
 blt:∀x,c.blt.contains x=true->mg x=none
 yk:∀x,c.exc.contains x=true->∃C,mg x=some (.ref C)/\k9 K x C/\∀base:Heap,K.In base->base.Ns mainGlobals mg->∃B newId fS bm,OwnCls x C bm newId mg base/\ExcBaseFacts B newId fS bm
 yi:∀x y C C',c.exc.contains x=true->c.exc.contains y=true->k9 K x C->k9 K y C'->PySem.W.exmOne K (.ref C) (.ref C')=some (decide (x=y\/y="MintError"))
 oW:∀x kvs,c.gd.lookup x=some kvs->∃A vs,mg x=some (.ref A)/\sS K w.params A vs/\nU K kvs vs
section
variable{Pg:Program}{w:World}{K:PySem.W.Frag}{mg:Str->Option Value}{base:Heap}{T:Nat->Option aJ}
theorem Kc{q:Str}(h:PySem.W.codeIn K cd q=true):PySem.W.kdsCode K cd=true:=by
 unfold PySem.W.codeIn at h;unfold PySem.W.kdsCode;split at h
 ·dsimp only;split at h
  ·rename_i e;rw[e]
  ·cases h
 ·cases h
theorem Nk:Passes (gj Pg w) (Z0 (gj Pg w) Pg w K mg base N qual scope f cd A outer s H E) E:=λpins Z H1 s1 e s' I h=>by
 obtain⟨C,H',J,fl,hE⟩:=I.flew h;exact Wu J fl (λb o q=>I.base.there b o q (by intro z;cases z)) rfl rfl rfl hE
theorem XJ:vo (Z0 (gj Pg w) Pg w K mg base N qual scope f cd A outer s H E) E:=λpins Z H1 s1 h' ea C vs I hm hE =>
 Vb I hm rfl rfl rfl hE
theorem MF:tE (Z0 (gj Pg w) Pg w K mg base N qual scope f cd A outer s H E) E:=λpins Z H1 H2 s1 s2 B ea C a0 I l hh hE =>
 leave_held I l hh rfl rfl rfl hE
theorem yN{k:Nat}{m:aJ}(hT:T i=some m){ds:List D}{g:G}{Q:KD}{E:KX}(h:a8 T k i ds g Q E):ds.length=m.ar:=by
 cases k with
 |zero=>exact h.elim
 |succ k =>
  obtain⟨m',e,h,_⟩:=h;rw[hT] at e;cases e;exact h
theorem Sz(lF:K.In base)(sk:base.Ns mainGlobals mg)(A:lX w K mg c T):∀(k i:Nat) d m f fd,T i=some m->iG K c d m f fd->fV Pg w K mg base (gj Pg w) (2*k) f fd d.ps (nC c.exc K d.ps.length (a8 T k i)):=by
 intro k
 induction k with
 |zero =>
  intro i d m f fd hm O;refine⟨λvs H Q E h=>h.1,λA outer s H args us vs Q E _ _ _ _ h=>?_⟩;obtain⟨_,_,_,_,_,_,q⟩:=h;exact q.elim
 |succ k ih =>
  intro i d m f fd hm O;obtain⟨oc,od,kV,doc,pm,an,fg,ct,kR,rfl,lk,kC⟩:=O.fn.ex;refine QQ (k:=2*k+1) lk kC O.sc (λvs H Q E h=>h.1) (λA0 outer s H vs Q E hr h=>?_);obtain⟨hl,xs,g,ρ,rs,R,q⟩:=h;have C:gk (Z0 (gj Pg w) Pg w K mg base d.N d.qn (j9 d.st) f fg A0 outer s H E) (c.at d) (a8 T k) (c.exc,E):=by
   refine⟨rfl,O.sc.nd,λx h=>h,λx h=>h,λx h=>.inr h,λx h=>h,λx h=>?_,λ_ _=>rfl,rfl,?_,(λ_=>PassesOwn.leaving),b9 T k,A.con,A.blt,λx j hj=>?_,λx j hj=>?_,λx y j C' hj hC=>?_,A.mx,rfl,Nk,λ_=>XJ,λ_=>⟨rfl,rfl,MF⟩,λx hx=>?_,A.yi,A.oW,λ_=>Kc kC⟩
   ·rcases h with h|h
    ·exact yW h
    ·exact absurd rfl (O.sc.lA _ (aH h))
   ·have:=hr.un;show(A0.deeper _).units+100<cLine;omega
   ·obtain⟨d',m',f',nS,hT,O',hmg⟩:=A.fns x j hj;exact⟨2*k,f',nS,d'.ps,⟨ih j d' m' f' nS hT O',O'.bi,λBW g' Q' E' h'=>(yN hT h').trans O'.ar⟩,hr.mono (by omega),hmg,O'.fn.kp⟩
   ·obtain⟨C',d',m',f',nS,hT,O',hmg,hC,gN,M⟩:=A.cls x j hj;exact⟨2*k,C',f',nS,d'.ps,⟨ih j d' m' f' nS hT O',O'.bi,λBW g' Q' E' h'=>(yN hT h').trans O'.ar⟩,hr,hmg,hC,gN,M⟩
   ·obtain⟨d',m',f',nS,hT,O',M⟩:=A.mh x y j C' hj hC;exact⟨2*k,f',nS,d'.ps,M,⟨ih j d' m' f' nS hT O',O'.bi,λBW g' Q' E' h'=>(yN hT h').trans O'.ar⟩,hr.mono (by omega)⟩
   ·obtain⟨C,h1,h2,h3⟩:=A.yk x hx;exact⟨C,h1,h2,h3 base lF sk⟩
  refine⟨_,qg (snd (P:=a8 T k) 60 60 (aj _)) C O.co,?_⟩;obtain⟨m',e,q1,q⟩:=q;rw[hm] at e;cases e;refine⟨b5 m xs,g,ρ,?_,R,wpS_mono (b9 T k) m.body ⟨λ_ g'=>LQ K ρ H Q .bc g',LQ K ρ H Q,λ_ _=>False,λ_ _=>False⟩ _ _ _ _ _ ⟨λZ g' h bw H' cE e R' s'=>h bw H' _ e R' .bc,λd g' h=>h,λ_ _ h=>h.elim,λ_ _ h=>h.elim⟩ (λ_ _ z=>z) q⟩;have:=j8.start (n:=d.N.length) rs;unfold b5 L2.start;rw[O.nn];exact this
theorem Kh{L k0:Nat}{a:Addr}{ns:List Int}(hO:vL H)(hS:eT K H a (ns.map V.int))(h:a8 T k0 L [.ref 0] [.ng (ns.map .int)] (λd _=>d=.bl true) iZ) :
  nC exc K 1 (a8 T k0 L) [.ref a] H (λv _=>v=.bl true) λ_ _ _=>False:=by
 refine⟨rfl,[.ref 0],[.ng (ns.map .int)],[a],.cons (.ref rfl) .nil,⟨rfl,λi o b h1 h2=>?_,λi j l m b h1 h2 m1=>?_⟩,b9 T k0 _ _ _ _ _ _ _ (λd g' e bw H' v _ _ r=>?_) (λ_ _ z=>z.elim) h⟩
 ·cases i with
  |zero =>
   cases h1;cases h2;refine⟨_,?_,a4.ofInts ns⟩;rcases hS with(z|⟨o,z⟩)|z
   ·rcases hO a with q|⟨o,xs,q⟩
    ·rw[z] at q;cases q
    ·rw[z] at q;cases q
   ·exact .inl ⟨o,z⟩
   ·exact .inr z
  |succ i=>simp at h1
 ·cases i with
  |zero=>cases h1;cases m1
  |succ i=>simp at h1
 ·subst e;cases r
  rfl
end
end M
namespace M
open PySem L2
variable{P:eB}{Z:S}{g:G}{Q:KD}{E:KX}{a i n:Nat}{b:Bool}{c f:Str}{o:ME}{x y d v:D}{cs:List Str}{j:Int}{l:List D}{A B:Prop}{kvs:List (Key×D)}{kg:G->Prop}
section
variable{N:Ends}{a b c:ME}{x y:MS}{p:Pr}
theorem yD(h:N.nx Z g):wpS P .pass N Z g E:=h
theorem Dn(h:wpS P x ⟨λgT g1=>wpS P y N gT g1 E,N.rt,N.bk,N.ct⟩ Z g E):wpS P (.seq x y) N Z g E:=h
theorem FK(h:wpS P x N Z g E):wpS P (.seq x .pass) N Z g E:=h
theorem Mm(h:aP P a Z g (λ_ g1=>N.nx Z g1) E):wpS P (.expr a) N Z g E:=h
theorem Dp(h:aP P a Z g (λx g1=>N.nx (Z.set i (some x)) g1) E):wpS P (.set i a) N Z g E:=h
theorem Sy{t:MT}(h:aP P a Z g (λx g1=>jK t x Z λgT=>N.nx gT g1) E):wpS P (.kM t a) N Z g E:=h
theorem Oq{i:ME}(h:aP P a Z g (λx g1=>aP P o Z g1 (λy g2=>aP P i Z g2 (λz g3=>X2 y z x g3 λg4=>N.nx Z g4) E) E) E):wpS P (.cF o i a) N Z g E:=h
theorem Mp(h:aP P a Z g (λx g1=>aP P o Z g1 (λy g2=>tw f cs y x g2 λg3=>N.nx Z g3) E) E):wpS P (.fC f cs o a) N Z g E:=h
theorem Ml(h:aP P o Z g (λy g1=>∃a' c fs x,y=.ref a'/\g1[a']?=some (.ins c fs)/\c∈cs/\fs.lookup f=some x/\aP P a Z g1 (λz g3=>cI .iadd [x,z] g3 λw g4=>∃ig,g4[a']?=some (.ins c ig)/\ig.length<100/\N.nx Z (g4.set a' (.ins c (u3 f w ig)))) E) E):wpS P (.jy f cs o a) N Z g E:=h
theorem Dm(h:dq P c Z g (λt g1=>if t=true then wpS P x N Z g1 E else wpS P y N Z g1 E) E):wpS P (.ifs c x y) N Z g E:=h
theorem Sv(h:aP P a Z g N.rt E):wpS P (.ret a) N Z g E:=h
theorem Oo{x:Str}(h:eN P a Z g (λvs g1=>vs.length<=1000/\E ⟨x⟩ g1) E):wpS P (.raise x a) N Z g E:=h
theorem Sx{hs:List (Str×ME)}(h:wpS P x N Z g (kl P N (Z.map λ_=>none) E hs)):wpS P (.T7 x hs) N Z g E:=h
theorem uW{x:Xn}{y:Str}{e:ME}{r:List (Str×ME)}(hx:x.cls=y)(h:aP P e Z g N.rt iZ):kl P N Z E ((y,e)::r) x g:=by unfold kl;rw[aK (.inl hx)];exact h
theorem zX{x:Xn}{y:Str}{e:ME}{r:List (Str×ME)}(hx:¬(x.cls=y\/y="MintError"))(h:kl P N Z E r x g):kl P N Z E ((y,e)::r) x g:=by unfold kl;rw[aD hx];exact h
theorem w_var(e:Z[i]?=some (some d))(h:Q d g):aP P (.var i) Z g Q E:=by exact⟨d,e,h⟩
theorem w_lit(h:Q d g):aP P (.lit d) Z g Q E:=h
theorem FJ(h:eN P a Z g (λxs g1=>cI p xs g1 Q) E):aP P (.prim p a) Z g Q E:=h
theorem Qr(h:cI p [] g Q):aP P (.prim p .nil) Z g Q E:=by exact h
theorem vQ(h:aP P a Z g (λx g1=>cI p [x] g1 Q) E):aP P (.prim p (.cons a .nil)) Z g Q E:=by exact h
theorem qj(h:aP P a Z g (λx g1=>aP P b Z g1 (λy g2=>cI p [x,y] g2 Q) E) E):aP P (.prim p (.cons a (.cons b .nil))) Z g Q E:=by exact h
theorem Ol{o1 o2:CmpOp}(h:aP P a Z g (λx g1=>aP P b Z g1 (λy g2=>cI (.cmp o1) [x,y] g2 λz g3=>∃t,z=.bl t/\if t=true then aP P c Z g3 (λw g4=>cI (.cmp o2) [y,w] g4 Q) E else Q (.bl false) g3) E) E):aP P (.chain o1 o2 a b c) Z g Q E:=h
theorem w_and(h:aP P a Z g (λx g1=>∃t,x=.bl t/\if t=true then aP P b Z g1 Q E else Q (.bl false) g1) E):aP P (.de a b) Z g Q E:=h
theorem w_not(h:aP P a Z g (λx g1=>∃t,x=.bl t/\Q (.bl (!t)) g1) E):aP P (.cG a) Z g Q E:=h
theorem FI{f:Nat}(h:eN P a Z g (λxs g1=>P f xs g1 Q E) E):aP P (.call f a) Z g Q E:=h
theorem Mn{f:Nat}{c:Str}(h:eN P a Z g (λxs g1=>P f (.ref g1.length::xs) (g1++[.ins c []]) (λd g2=>d=.bc/\Q (.ref g1.length) g2) E) E):aP P (.make c f a) Z g Q E:=h
theorem Om{m:Str}{cs:List (Str×Nat)}(h:aP P o Z g (λx g1=>∃a' c fs f,x=.ref a'/\g1[a']?=some (.ins c fs)/\fs.lookup m=none/\cs.lookup c=some f/\eN P a Z g1 (λxs g2=>P f (x::xs) g2 Q E) E) E):aP P (.bq m cs o a) Z g Q E:=h
theorem Mo(h:aP P o Z g (λx g1=>mj p x g1/\eN P a Z g1 (λxs g2=>cI p (x::xs) g2 Q) E) E):aP P (.dQ p o a) Z g Q E:=h
theorem Su(h:eN P a Z (g++[.bN []]) (λxs g1=>∃kvs,qd xs []=some kvs/\xs.length<=30/\g1[g.length]?=some (.bN [])/\Q (.ref g.length) (g1.set g.length (.bN kvs))) E):aP P (.mz a) Z g Q E:=h
theorem zQ{Q:List D->G->Prop}(h:Q [] g):eN P .nil Z g Q E:=h
theorem tN{Q:List D->G->Prop}(h:aP P a Z g (λx g1=>eN P b Z g1 (λxs g2=>Q (x::xs) g2) E) E):eN P (.cons a b) Z g Q E:=h
theorem Mq{Q:Bool->G->Prop}(h:dq P a Z g (λt g1=>if t=true then dq P b Z g1 Q E else Q false g1) E):dq P (.de a b) Z g Q E:=h
theorem Sw{Q:Bool->G->Prop}(h:dq P a Z g (λt g1=>if t=true then Q true g1 else dq P b Z g1 Q E) E):dq P (.gp a b) Z g Q E:=h
theorem Mr{Q:Bool->G->Prop}(h:dq P a Z g (λt g1=>Q (!t) g1) E):dq P (.cG a) Z g Q E:=h
theorem R8{Q:Bool->G->Prop}(h:Q true g):dq P .no Z g Q E:=h
theorem Dq{Q:Bool->G->Prop}(h:aP P a Z g (λx g1=>pE g1 x λb=>Q b g1) E):dq P (.dE a) Z g Q E:=h
end
section
variable{i:Int}{kb:Bool->Prop}{t s:Bool}{m:List D}
theorem Qu(h:Q (.int (i+j)) g):cI (.bin .Add) [.int i,.int j] g Q:=⟨_,_,.inl ⟨i,j,_,rfl,rfl,rfl,rfl⟩,h⟩
theorem Qv(h:Q (.int (i-j)) g):cI (.bin .Sub) [.int i,.int j] g Q:=⟨_,_,.inl ⟨i,j,_,rfl,rfl,rfl,rfl⟩,h⟩
theorem ql(c:ph i j)(h:Q (.int (i*j)) g):cI (.bin .Mult) [.int i,.int j] g Q:=⟨_,_,.inl ⟨i,j,_,rfl,⟨c,rfl⟩,rfl,rfl⟩,h⟩
theorem T6(c:0<j)(h:Q (.int (i % j)) g):cI (.bin .Mod) [.int i,.int j] g Q:=⟨_,_,.inl ⟨i,j,_,rfl,⟨c,rfl⟩,rfl,rfl⟩,h⟩
theorem Cw(c:Ae i j)(h:Q (.int (i / j)) g):cI (.bin .FloorDiv) [.int i,.int j] g Q:=⟨_,_,.inl ⟨i,j,_,rfl,⟨c,rfl⟩,rfl,rfl⟩,h⟩
theorem uQ(c:Z7 i j)(h:Q (.int (i ^ j.toNat)) g):cI (.bin .Pow) [.int i,.int j] g Q:=⟨_,_,.inl ⟨i,j,_,rfl,⟨c,rfl⟩,rfl,rfl⟩,h⟩
theorem Qy(hl:l.length+m.length<=100000)(h:Q (.tup (l++m)) g):cI (.bin .Add) [.tup l,.tup m] g Q:=⟨_,_,.inr (.inl ⟨rfl,.inl ⟨l,m,rfl,hl,rfl,rfl⟩⟩),h⟩
theorem Ss(h:Q (.int (-i)) g):cI (.un .USub) [.int i] g Q:=⟨_,_,⟨rfl,i,rfl,rfl,rfl⟩,h⟩
theorem Z3{op:CmpOp}(hb:Cd g x y b op)(h:Q (.bl b) g):cI (.cmp op) [x,y] g Q:=⟨_,_,⟨x,y,b,rfl,hb,rfl,rfl⟩,h⟩
theorem OI(h:Q (.bl (decide (i<j))) g):cI (.cmp .Lt) [.int i,.int j] g Q:=Z3 ⟨i,j,rfl,rfl,rfl⟩ h
theorem OG(h:Q (.bl (decide (i<=j))) g):cI (.cmp .LtE) [.int i,.int j] g Q:=Z3 ⟨i,j,rfl,rfl,rfl⟩ h
theorem OF(h:Q (.bl (decide (j<i))) g):cI (.cmp .Gt) [.int i,.int j] g Q:=Z3 ⟨i,j,rfl,rfl,rfl⟩ h
theorem OE(h:Q (.bl (decide (j<=i))) g):cI (.cmp .GtE) [.int i,.int j] g Q:=Z3 ⟨i,j,rfl,rfl,rfl⟩ h
theorem vM(h:pY g x y λb=>Q (.bl b) g):cI (.cmp .Eq) [x,y] g Q:=let ⟨_,hb,h⟩:=h;Z3 hb h
theorem Du(h:pY g x y λb=>Q (.bl (!b)) g):cI (.cmp .NotEq) [x,y] g Q:=let ⟨b,hb,h⟩:=h;Z3 (b:=!b) (show sA g x y (!(!b)) from by rw[qE];exact hb) h
theorem Ak(h:rm g x y λb=>Q (.bl b) g):cI (.cmp .In) [x,y] g Q:=let ⟨_,hb,h⟩:=h;Z3 (.inl hb) h
theorem sT(h:rm g x y λb=>Q (.bl (!b)) g):cI (.cmp .NotIn) [x,y] g Q:=let ⟨b,hb,h⟩:=h;Z3 (b:=!b) (.inl (show inR g x y (!(!b)) from by rw[qE];exact hb)) h
theorem Dc(h:kb (decide (i=j))):pY g (.int i) (.int j) kb:=⟨_,.inl ⟨i,j,rfl,rfl,rfl⟩,h⟩
theorem Co(h:kb (t==s)):pY g (.bl t) (.bl s) kb:=⟨_,.inr (.inl ⟨t,s,rfl,rfl,rfl⟩),h⟩
theorem RN{x y:Str}(h:kb (decide (x=y))):pY g (.str x) (.str y) kb:=⟨_,.inr (.inr (.inl ⟨x,y,rfl,rfl,rfl⟩)),h⟩
theorem QA(h:Q (.bl (decide (i=j))) g):cI (.cmp .Eq) [.int i,.int j] g Q:=vM (Dc h)
theorem CJ(h:Q (.bl (!decide (i=j))) g):cI (.cmp .NotEq) [.int i,.int j] g Q:=Du (Dc h)
theorem Qz(h:Q (.bl (t==s)) g):cI (.cmp .Eq) [.bl t,.bl s] g Q:=vM (Co h)
theorem QI(h:Q (.bl (!(t==s))) g):cI (.cmp .NotEq) [.bl t,.bl s] g Q:=Du (Co h)
theorem QB{p q:Str}(h:Q (.bl (decide (p=q))) g):cI (.cmp .Eq) [.str p,.str q] g Q:=vM (RN h)
theorem pq(h:Q (.bl (Y3 d)) g):cI (.cmp .Is) [d,.bc] g Q:=Z3 ⟨rfl,rfl⟩ h
theorem QC(h:Q (.bl true) g):cI (.cmp .Is) [.bc,.bc] g Q:=pq h
theorem QE(h:Q (.bl false) g):cI (.cmp .Is) [.int i,.bc] g Q:=pq h
theorem QD(h:Q (.bl false) g):cI (.cmp .Is) [.bl t,.bc] g Q:=pq h
theorem QG{x:Str}(h:Q (.bl false) g):cI (.cmp .Is) [.str x,.bc] g Q:=pq h
theorem QH(h:Q (.bl false) g):cI (.cmp .Is) [.tup l,.bc] g Q:=pq h
theorem QF(h:Q (.bl false) g):cI (.cmp .Is) [.ref n,.bc] g Q:=pq h
theorem Ar(h:kb t):pE g (.bl t) kb:=⟨t,.inr (.inl rfl),h⟩
theorem vt{p:Bool->Prop}(h:p t):∃s,D.bl t=D.bl s/\p s:=⟨t,rfl,h⟩
theorem JZ{p:Int->Prop}(h:p i):∃s,D.int i=D.int s/\p s:=⟨i,rfl,h⟩
theorem if2{c:Prop}[Decidable c](h1:c->A)(h2:¬c->B):if decide c=true then A else B:=by
 by_cases h:c
 ·rw[aK (aT h)];exact h1 h
 ·rw[aD (by rw[aR h];decide)];exact h2 h
theorem jC(h:A):if true=true then A else B:=by rw[aK rfl];exact h
theorem Y5(h:B):if false=true then A else B:=by rw[aD (by decide)];exact h
theorem OQ(h:A):if(!false)=true then A else B:=by rw[aK (show(!false)=true from rfl)];exact h
theorem OR(h:B):if(!true)=true then A else B:=by rw[aD (by decide)];exact h
theorem iV(hb:b=false)(h:B):if b=true then A else B:=by rw[hb];exact Y5 h
theorem je(hb:b=true)(h:A):if b=true then A else B:=by rw[hb];exact jC h
theorem E2(hl:b7 g a=some l)(h2:iF l i=some d)(h:Q d g):cI .ix [.ref a,.int i] g Q:=⟨_,_,⟨rfl,.inl ⟨_,l,i,rfl,hl,h2⟩⟩,h⟩
theorem nW(h2:iF l i=some d)(h:Q d g):cI .ix [.tup l,.int i] g Q:=⟨_,_,⟨rfl,.inl ⟨_,l,i,rfl,rfl,h2⟩⟩,h⟩
theorem m4{i:Nat}{k:Key}(hg:g[i]?=some (.bN kvs))(hk:Q5 y=some k)(hv:E0 kvs k=some v)(h:Q v g):cI .ix [.ref i,y] g Q:=⟨_,_,⟨rfl,.inr (.inl ⟨i,kvs,y,k,rfl,hg,hk,hv⟩)⟩,h⟩
theorem qt(hl:g[a]?=some (.lst l))(hn:ml l.length i=some n)(h:kg (g.set a (.lst (l.set n v)))):X2 (.ref a) (.int i) v g kg:=⟨_,.inl ⟨a,i,l,n,rfl,rfl,hl,hn,rfl⟩,h⟩
theorem tm{i:Nat}{k:Key}(hg:g[i]?=some (.bN kvs))(hk:Q5 y=some k)(hl:kvs.length<100000)(h:kg (g.set i (.bN (putD kvs k v)))):X2 (.ref i) y v g kg:=⟨_,.inr ⟨i,kvs,k,rfl,hg,hk,hl,rfl⟩,h⟩
theorem tu{fs:List (Str×D)}(hg:g[a]?=some (.ins c fs))(hc:c∈cs)(hl:fs.length<100)(h:kg (g.set a (.ins c (u3 f v fs)))):tw f cs (.ref a) v g kg:=⟨_,⟨a,c,fs,rfl,hg,hc,hl,rfl⟩,h⟩
theorem E4{fs:List (Str×D)}(hg:g[a]?=some (.ins c fs))(hf:fs.lookup f=some d)(h:Q d g):cI (.fld f) [.ref a] g Q:=⟨_,_,⟨a,c,fs,rfl,hg,hf,rfl⟩,h⟩
theorem b0(h:g[a]?=some (.lst l)):b7 g a=some l:=by simp only[b7,h,zY]
theorem Ua(h:g[a]?=some (.ng l)):b7 g a=some l:=by simp only[b7,h,zY]
theorem zE(hl:b7 g a=some l)(h:Q (.int l.length) g):cI .len [.ref a] g Q:=⟨_,_,⟨rfl,.inl ⟨_,l,rfl,hl,rfl⟩⟩,h⟩
theorem zD(hl:g[a]?=some (.bN kvs))(h:Q (.int kvs.length) g):cI .len [.ref a] g Q:=⟨_,_,⟨rfl,.inr (.inl ⟨a,kvs,rfl,hl,rfl⟩)⟩,h⟩
theorem LD(hl:b7 g a=some l)(h:Q (.ref g.length) (g++[.lst (cut l none (some i))])):cI (.lx false true) [.ref a,.int i] g Q:=⟨_,_,⟨_,i,rfl,.inr ⟨a,l,rfl,hl,rfl,rfl⟩⟩,h⟩
theorem zM(hl:l.length<=1000)(h:Q (.tup l) g):cI .tup l g Q:=⟨_,_,⟨hl,rfl,rfl⟩,h⟩
theorem tj(hl:l.length<=1000)(h:Q (.ref g.length) (g++[.lst l])):cI .lst l g Q:=⟨_,_,⟨hl,rfl,rfl⟩,h⟩
theorem Rn(hl:b7 g a=some l)(h:Q (.ref g.length) (g++[.lst l])):cI .list [.ref a] g Q:=⟨_,_,.inl ⟨_,l,rfl,hl,rfl,rfl⟩,h⟩
theorem sZ(hg:g[a]?=some (.bN kvs))(hz:kvs.length<=10000)(h:Q (.ref g.length) (g++[.lst ((kvs.map (·.1)).map kD)])):cI .list [.ref a] g Q:=⟨_,_,.inr ⟨a,kvs,rfl,hg,hz,rfl,rfl⟩,h⟩
theorem Ro(h:Q (.ref g.length) (g++[.lst l])):cI .list [.tup l] g Q:=⟨_,_,.inl ⟨_,l,rfl,rfl,rfl,rfl⟩,h⟩
theorem Sq(hl:b7 g a=some l)(h:Q (.tup l) g):cI .tuple [.ref a] g Q:=⟨_,_,⟨_,l,rfl,hl,rfl,rfl⟩,h⟩
theorem fL{c:String}(hc:c∈["int","bool","str","tuple","list"])(hb:pv g d c=some b)(h:Q (.bl b) g):cI .isin [d,.ty c] g Q:=⟨_,_,⟨d,c,b,rfl,hc,hb,rfl,rfl⟩,h⟩
theorem JV(h:Q (.int (i+j)) g):cI .iadd [.int i,.int j] g Q:=⟨_,_,.inl ⟨i,j,rfl,rfl,rfl⟩,h⟩
theorem Gd{i:Nat}{ns:List Int}(hg:g[i]?=some (.bN kvs))(hk:kvs.map (·.1)=ns.map Sum.inl)(hz:ns.length<60)(h:Q (.ref g.length) (g++[.lst ((u9 ns).map .int)])):cI .eK [.ref i] g Q:=⟨_,_,.inl ⟨i,kvs,ns,rfl,hg,hk,hz,rfl,rfl⟩,h⟩
theorem Nj{i:Nat}{ns:List Int}(hl:b7 g i=some (ns.map .int))(hz:ns.length<60)(h:Q (.ref g.length) (g++[.lst ((J7 ns).map .int)])):cI .eK [.ref i] g Q:=⟨_,_,.inr ⟨_,ns,rfl,hl,hz,rfl,rfl⟩,h⟩
theorem FY{i:Nat}(hg:g[i]?=some (.lst l))(h:Q .bc (g.set i (.lst []))):cI .clear [.ref i] g Q:=⟨_,_,⟨i,l,rfl,hg,rfl,rfl⟩,h⟩
theorem GK{i:Nat}(hg:g[i]?=some (.lst l)):mj .clear (.ref i) g:=⟨i,l,rfl,b0 hg⟩
theorem N7(h:Q (.ref g.length) (g++[.bN []])):cI .N7 [] g Q:=⟨_,_,⟨rfl,rfl,rfl⟩,h⟩
theorem max2(h:Q (.int (if j>i then j else i)) g):cI .max [.int i,.int j] g Q:=⟨_,_,⟨rfl,.inl ⟨i,j,rfl,rfl⟩⟩,h⟩
theorem KG{n:Int}{fs:List (Key×Int×Int)}(hg:g[a]?=some (.bN (fs.map iy)))(hl:fs.length<1000)(nd:(fs.map (·.1)).Nodup)(h:Q (.ref g.length) (g++[.bN ((fs.filter (T2 n)).map iy)])):cI .lU [.ref a,.int n] g Q:=⟨_,_,⟨a,n,fs,rfl,hg,hl,nd,rfl,rfl⟩,h⟩
theorem Aa{c:Key}(hg:g[a]?=some (.bN kvs))(hk:Q5 y=some c)(hv:E0 kvs c=some d)(h:Q d (g.set a (.bN (delD kvs c)))):cI .ic [.ref a,y] g Q:=⟨_,_,⟨a,y,kvs,c,rfl,hg,hk,hv,rfl⟩,h⟩
theorem zJ(hg:g[a]?=some (.bN kvs)):mj .ic (.ref a) g:=⟨a,kvs,rfl,hg⟩
theorem QW{v:Bool}(h:Q (.int (if v then 1 else 0)) g):cI .int [.bl v] g Q:=⟨_,_,⟨rfl,.inr ⟨v,rfl,rfl⟩⟩,h⟩
theorem Cz{i:Nat}{v:Bool}(hl:b7 g i=some l)(hv:T5 l=some v)(h:Q (.bl v) g):cI .all [.ref i] g Q:=⟨_,_,⟨i,l,v,rfl,hl,.inl hv,rfl,rfl⟩,h⟩
theorem A6{i:Nat}{k:S->Prop}(h:k (Z.set i (some x))):jK (.one i) x Z k:=h
theorem Gw{is:List Nat}{bL:S}{k:S->Prop}(e:A8 is l Z=some bL)(h:k bL):jK (.many is) (.tup l) Z k:=⟨l,bL,rfl,e,h⟩
end
theorem DI:∀(bs:List Bool),T5 (bs.map D.bl)=some (bs.all id):=by
 intro bs
 induction bs with
 |nil=>rfl
 |cons b r ih=>simp[T5,ih]
theorem call_of{T:Nat->Option aJ}{k f:Nat}{m:aJ}{ds:List D}(hT:T f=some m)(hl:ds.length=m.ar)(h:wpS (a8 T k) m.body ⟨λ_ g'=>Q .bc g',Q,λ_ _=>False,λ_ _=>False⟩ (b5 m ds) g E):a8 T (k+1) f ds g Q E:=⟨m,hT,hl,h⟩
theorem o6{a:ME}{f:Nat}{m:Str}{fs:List (Str×D)}{cs:List (Str×Nat)}(hg:g[i]?=some (.ins c fs))(hf:fs.lookup m=none)(hc:cs.lookup c=some f)(h:eN P a Z g (λxs g2=>P f (.ref i::xs) g2 Q E) E) :
  ∃a' c fs f,D.ref i=.ref a'/\g[a']?=some (.ins c fs)/\fs.lookup m=none/\cs.lookup c=some f/\eN P a Z g (λxs g2=>P f (.ref i::xs) g2 Q E) E:=⟨i,c,fs,f,rfl,hg,hf,hc,h⟩
def IK.Is(k:IK)(l:List D)(g:G):Prop:=∀i,k.at i g=some l[i]?
theorem V2:(IK.fix l).Is l g:=λ_=>rfl
theorem Q7(h:b7 g a=some l):(IK.lst a).Is l g:=λi=>by simp only[IK.at,h]
theorem vG{lo:Int}(h:(w6 lo n)[i]?=some x):i<n/\x=.int (lo+i):=by
 unfold w6 at h;have hi:i<n:=by
  have:=(ax.mp h).1;simpa using this
 rw[aF,AF hi] at h;cases h;exact⟨hi,rfl⟩
theorem vH(lo:Int)(n:Nat):(w6 lo n).length=n:=by simp[w6]
section
variable{N:Ends}{it a c:ME}{s:MS}{t:MT}
theorem Yk{k:IK}{fin:S->G->Prop}{turn:D->(S->G->Prop)->S->G->Prop}(I:Nat->S->G->Prop)(hk:∀i Z g,I i Z g->k.Is l g)(h0:I 0 Z g)(hs:∀i x Z g,l[i]?=some x->I i Z g->turn x (I (i+1)) Z g)(hd:∀Z g,I l.length Z g->fin Z g):turns k Z g fin turn:=by
 refine⟨λi m Z g=>m=l.length-i/\i<=l.length/\I i Z g,⟨l.length,by simp,bX _,h0⟩,?_⟩;rintro i m Z g ⟨rfl,hi,p⟩;rw[hk i Z g p i];by_cases dF:i<l.length
 ·rw[az dF];exact .inr ⟨_,rfl,I (i+1),λbL g' p'=>⟨l.length-(i+1),by omega,rfl,dF,p'⟩,hs i l[i] Z g (az dF) p⟩
 ·have e:i=l.length:=by omega
  subst e;rw[eP (aj _)];exact .inl ⟨rfl,hd Z g p⟩
inductive ub(P:eB)(t:MT)(s:MS)(N:Ends)(E:KX)(Z:S)(k:IK)(g1:G):Prop
 |mk (l:List D) (I:Nat->S->G->Prop) (hk:∀i Z g,I i Z g->k.Is l g) (h0:I 0 Z g1)
   (hs:∀i x Z g,l[i]?=some x->I i Z g->jK t x Z λcj=>wpS P s ⟨I (i+1),N.rt,N.nx,I (i+1)⟩ cj g E) (hd:∀Z g,I l.length Z g->N.nx Z g):ub P t s N E Z k g1
theorem va(hP:i6 P)(h:hX P it Z g (ub P t s N E Z) E):wpS P (.eA t it s) N Z g E :=
 v5 hP it _ _ _ _ _ _ (λk g1 hq=>by obtain⟨l,I,hk,h0,hs,hd⟩:=hq;exact Yk I hk h0 hs hd) (λ_ _ z=>z) h
inductive CompI(P:eB)(t:MT)(cond elt:ME)(E:KX)(Q:KD)(Z:S)(k:IK)(g1:G):Prop
 |mk (l:List D) (I:Nat->List D->S->G->Prop) (hl:l.length<=1000) (hk:∀i ys Z g,I i ys Z g->k.Is l g/\ys.length<=i) (h0:I 0 [] Z g1)
   (hs:∀i x ys Z g,l[i]?=some x->I i ys Z g->jK t x Z λcj=>dq P cond cj g (λc g3=>if c=true then aP P elt cj g3 (λy g4=>I (i+1) (ys++[y]) cj g4) E else I (i+1) ys cj g3) iZ)
   (hd:∀ys Z g,I l.length ys Z g->Q (.ref g.length) (g++[.lst ys])):CompI P t cond elt E Q Z k g1
theorem tM{a9:List Nat}{cond elt:ME}(hP:i6 P)(h:hX P it Z g (CompI P t cond elt iZ Q (O5 Z a9 n)) E):aP P (.comp a9 n t it cond elt) Z g Q E:=by
 refine v5 hP it _ _ _ _ _ _ (λk g1 h=>?_) (λ_ _ z=>z) h;obtain⟨l,I,hl,hk,h0,hs,hd⟩:=h;refine⟨λi m ys Z g=>m=l.length-i/\i<=l.length/\I i ys Z g,⟨l.length,by simp,bX _,h0⟩,?_⟩;rintro i m ys Z g ⟨rfl,hi,p⟩;obtain⟨xr,hy⟩:=hk i ys Z g p;rw[xr i];by_cases dF:i<l.length
 ·rw[az dF];refine .inr ⟨_,rfl,by omega,y9 (λcj q=>m8 hP cond _ _ _ _ _ _ (λc g3 q=>?_) (λ_ _ z=>z) q) (hs i l[i] ys Z g (az dF) p)⟩;cases c
  ·exact⟨l.length-(i+1),by omega,rfl,dF,by simpa using(show I (i+1) ys cj g3 from q)⟩
  ·exact a6 hP elt _ _ _ _ _ _ (λy g4 q=>⟨l.length-(i+1),by omega,rfl,dF,by simpa using q⟩) (λ_ _ z=>z) q
 ·have e:i=l.length:=by omega
  subst e;rw[eP (aj _)];exact .inl ⟨rfl,hd ys Z g p⟩
theorem VG{a9:List Nat}{cond elt:ME}(hP:i6 P)(h:aP P a Z g (λx g1=>∃j:Nat,x=.int j/\j<=1000/\∃I:Nat->List D->S->G->Prop,I 0 [] (O5 Z a9 n) g1/\(∀i ys Z g,I i ys Z g->ys.length<=i) /\
      (∀(i:Nat) ys Z g,i<j->I i ys Z g->jK t (.int i) Z λcj=>dq P cond cj g (λc g3=>if c=true then aP P elt cj g3 (λy g4=>I (i+1) (ys++[y]) cj g4) iZ else I (i+1) ys cj g3) iZ) /\
      ∀ ys Z g,I j ys Z g->Q (.ref g.length) (g ++ [.lst ys])) E):aP P (.comp a9 n t (.fq a) cond elt) Z g Q E:=by
  refine tM hP ?_;refine a6 hP a _ _ _ _ _ _ (λx g1 h=>?_) (λ_ _ z=>z) h;obtain⟨j,rfl,hj,I,h0,hz,hs,hd⟩:=h;refine⟨j,rfl,by omega,by omega,_,I,by rw[vH];simpa using hj,λi ys Z g p=>⟨V2,hz i ys Z g p⟩,h0,λi x ys Z g hx p=>?_,λys Z g p=>hd ys Z g (by rw[vH] at p;simpa using p)⟩;obtain⟨hi,rfl⟩:=vG hx;rw[show(0:Int)+(i:Int)=i by omega];exact hs i ys Z g (by simpa using hi) p
theorem Am(hP:i6 P){R:IK->G->Prop}(h:aP P a Z g (λx g1=>∃j:Int,x=.int j/\-(2 ^ 62)<=j/\j<2 ^ 62/\R (.fix (w6 0 j.toNat)) g1) E):hX P (.fq a) Z g R E:=h
theorem Bj(hP:i6 P){R:IK->G->Prop}(h:aP P a Z g (λx g1=>∃l,x=.tup l/\R (.fix l) g1) E):hX P (.eL a) Z g R E:=by
 exact a6 hP a _ _ _ _ _ _ (λx g1 h=>.inl h) (λ_ _ z=>z) h
theorem oG(hP:i6 P){R:IK->G->Prop}(h:aP P a Z g (λx g1=>∃i l,x=.ref i/\b7 g1 i=some l/\R (.lst i) g1) E):hX P (.eL a) Z g R E:=by
 exact a6 hP a _ _ _ _ _ _ (λx g1 h=>.inr h) (λ_ _ z=>z) h
end
end M
namespace M
open PySem L2 PySem.Spec PyProof.Rows
variable{K:PySem.W.Frag}{x:Str}{C:Addr}
structure RF where
 id:Nat
 nm:Str
 N:List Str
 k:Nat
 i:Nat
 m:aJ
structure RM where
 id:Nat
 cl:Str
 nm:Str
 qn:Str
 N:List Str
 k:Nat
 i:Nat
 j:Nat
 m:aJ
def RF.d(tp:Nat->Stmt)(r:RF):nj:=⟨r.nm,r.nm,r.N,r.N.take r.k,tp r.i⟩
def RM.d(mt:Nat->Nat->Stmt)(r:RM):nj:=⟨r.nm,r.qn,r.N,r.N.take r.k,mt r.i r.j⟩
def qi(F:List RF)(M:List RM)(i:Nat):Option aJ:=match F.find? λr=>Nat.beq r.id i with
 |some r=>some r.m
 |none=>(M.find? λr=>Nat.beq r.id i).map (·.m)
section
variable(tp:Nat->Stmt)(mt:Nat->Nat->Stmt)(K:PySem.W.Frag)
def PF:List RF->Prop
 |[]=>True
 |r::l=>(∃f fd,PySem.W.nsIn K mainGlobals r.nm=some (some (.ref f))/\oi K r.nm r.nm (tp r.i) f fd)/\PF l
def PM:List RM->Prop
 |[]=>True
 |r::l=>(∃C f fd,PySem.W.nsIn K mainGlobals r.cl=some (some (.ref C))/\Meth K C r.nm f/\oi K r.nm r.qn (mt r.i r.j) f fd)/\PM l
def PC:List (Str×Nat)->Prop
 |[]=>True
 |r::l=>(∃C,PySem.W.nsIn K mainGlobals r.1=some (some (.ref C))/\ik K C/\PySem.W.makesIn K C=true/\PySem.W.keepIn K (.ref C)=true)/\PC l
def PA:List (Str×Str)->Prop
 |[]=>True
 |r::l=>(∃C,PySem.W.nsIn K mainGlobals r.2=some (some (.ref C))/\PySem.W.findIn K (.ref C) r.1=some none)/\PA l
def PB:List Str->Prop
 |[]=>True
 |r::l=>PySem.W.nsIn K mainGlobals r=some none/\PB l
def PX:List Str->Prop
 |[]=>True
 |r::l=>(∃C,PySem.W.nsIn K mainGlobals r=some (some (.ref C))/\PySem.W.excIn K C [.type "ValueError",.type "Exception",.type "BaseException",.type "object"] "ValueError.__new__"=true)/\PX l
def BF:List RF->Prop
 |[]=>True
 |r::l=>(∀(kV doc pm:Value) (an:Option Addr) (fg ct:Value) (us:List Value),us.length=(r.N.take r.k).length->bindArgs (PySem.W.fnOf r.nm r.nm (u7 (tp r.i)) (k7 (tp r.i)) (j9 (tp r.i)) .none kV doc pm an fg ct) ⟨us,[]⟩=pure ((r.N.take r.k).zip us))/\BF l
def BM:List RM->Prop
 |[]=>True
 |r::l=>(∀(kV doc pm:Value) (an:Option Addr) (fg ct:Value) (us:List Value),us.length=(r.N.take r.k).length->bindArgs (PySem.W.fnOf r.nm r.qn (u7 (mt r.i r.j)) (k7 (mt r.i r.j)) (j9 (mt r.i r.j)) .none kV doc pm an fg ct) ⟨us,[]⟩=pure ((r.N.take r.k).zip us))/\BM l
def YF(c:c8):List RF->Prop
 |[]=>True
 |r::l=>n6 (comp 60) (c.at (r.d tp)) (k7 (tp r.i))=some r.m.body/\YF c l
def YM(c:c8):List RM->Prop
 |[]=>True
 |r::l=>n6 (comp 60) (c.at (r.d mt)) (k7 (mt r.i r.j))=some r.m.body/\YM c l
end
section
variable{tp:Nat->Stmt}{mt:Nat->Nat->Stmt}{c:c8}{id k i j:Nat}{cl nm qn:Str}{N:List Str}{m:aJ}{f:Addr}{oc kV doc pm fg ct:Value}{od an:Option Addr}{kR:Array (Option Value)}
theorem PF.nil:PF tp K []:=trivial
theorem PF.cons{l:List RF}(a:PySem.W.nsIn K mainGlobals nm=some (some (.ref f)))(lk:K.lookup f=some ⟨oc,od,.func (PySem.W.fnOf nm nm (u7 (tp i)) (k7 (tp i)) (j9 (tp i)) .none kV doc pm an fg ct),kR⟩)(cd:PySem.W.codeIn K fg nm=true)(kp:PySem.W.keepIn K (.ref f)=true)(h:PF tp K l):PF tp K (⟨id,nm,N,k,i,m⟩::l):=⟨⟨f,_,a,Fn lk cd kp⟩,h⟩
theorem PM.nil:PM mt K []:=trivial
theorem PM.cons{l:List RM}(c0:PySem.W.nsIn K mainGlobals cl=some (some (.ref C)))(a:PySem.W.findIn K (.ref C) nm=some (some (.ref f)))(af:PySem.W.isFn K (.ref f)=true)(lk:K.lookup f=some ⟨oc,od,.func (PySem.W.fnOf nm qn (u7 (mt i j)) (k7 (mt i j)) (j9 (mt i j)) .none kV doc pm an fg ct),kR⟩)(cd:PySem.W.codeIn K fg qn=true)(kp:PySem.W.keepIn K (.ref f)=true)(h:PM mt K l):PM mt K (⟨id,cl,nm,qn,N,k,i,j,m⟩::l):=⟨⟨C,f,_,c0,⟨a,af,kp⟩,Fn lk cd kp⟩,h⟩
theorem PC.nil:PC K []:=trivial
theorem PC.cons{l:List (Str×Nat)}(cn:PySem.W.nsIn K mainGlobals x=some (some (.ref C)))(cp:PySem.W.plainGet K C Str.empty=true)(JK:PySem.W.hasDictIn K C=true)(JH:PySem.W.plainOver K C=true)(JG:PySem.W.findIn K (.ref C) "__setattr__"=some (some (.builtin "object.__setattr__")))(JI:PySem.W.makesIn K C=true)(JJ:PySem.W.keepIn K (.ref C)=true)(h:PC K l):PC K ((x,i)::l):=⟨⟨C,cn,⟨cp,JK,JH,JG⟩,JI,JJ⟩,h⟩
theorem PA.nil:PA K []:=trivial
theorem PA.cons{l:List (Str×Str)}(cn:PySem.W.nsIn K mainGlobals x=some (some (.ref C)))(fl:PySem.W.findIn K (.ref C) nm=some none)(h:PA K l):PA K ((nm,x)::l):=⟨⟨C,cn,fl⟩,h⟩
theorem PB.nil:PB K []:=trivial
theorem PB.cons{l:List Str}(cn:PySem.W.nsIn K mainGlobals x=some none)(h:PB K l):PB K (x::l):=⟨cn,h⟩
theorem PX.nil:PX K []:=trivial
theorem PX.cons{l:List Str}(cn:PySem.W.nsIn K mainGlobals x=some (some (.ref C)))(q:PySem.W.excIn K C [.type "ValueError",.type "Exception",.type "BaseException",.type "object"] "ValueError.__new__"=true)(h:PX K l):PX K (x::l):=⟨⟨C,cn,q⟩,h⟩
theorem AL{P:List Value->Prop}{n:Nat}(h:∀a vs,vs.length=n->P (a::vs))(us:List Value)(hl:us.length=n+1):P us:=by
 cases us with
 |nil=>cases hl
 |cons a vs=>exact h a vs (Nat.succ.inj hl)
theorem AK{P:List Value->Prop}(h:P [])(us:List Value)(hl:us.length=0):P us:=by
 cases List.length_eq_zero_iff.mp hl;exact h
theorem BF.nil:BF tp []:=trivial
theorem BF.cons{l:List RF}(h:∀(kV doc pm:Value) (an:Option Addr) (fg ct:Value) (us:List Value),us.length=(N.take k).length->bindArgs (PySem.W.fnOf nm nm (u7 (tp i)) (k7 (tp i)) (j9 (tp i)) .none kV doc pm an fg ct) ⟨us,[]⟩=pure ((N.take k).zip us))(h2:BF tp l):BF tp (⟨id,nm,N,k,i,m⟩::l):=⟨h,h2⟩
theorem BM.nil:BM mt []:=trivial
theorem BM.cons{l:List RM}(h:∀(kV doc pm:Value) (an:Option Addr) (fg ct:Value) (us:List Value),us.length=(N.take k).length->bindArgs (PySem.W.fnOf nm qn (u7 (mt i j)) (k7 (mt i j)) (j9 (mt i j)) .none kV doc pm an fg ct) ⟨us,[]⟩=pure ((N.take k).zip us))(h2:BM mt l):BM mt (⟨id,cl,nm,qn,N,k,i,j,m⟩::l):=⟨h,h2⟩
theorem YF.nil:YF tp c []:=trivial
theorem YF.cons{l:List RF}(h:n6 (comp 60) (c.at ⟨nm,nm,N,N.take k,tp i⟩) (k7 (tp i))=some m.body)(h2:YF tp c l):YF tp c (⟨id,nm,N,k,i,m⟩::l):=⟨h,h2⟩
theorem YM.nil:YM mt c []:=trivial
theorem YM.cons{l:List RM}(h:n6 (comp 60) (c.at ⟨nm,qn,N,N.take k,mt i j⟩) (k7 (mt i j))=some m.body)(h2:YM mt c l):YM mt c (⟨id,cl,nm,qn,N,k,i,j,m⟩::l):=⟨h,h2⟩
theorem YF.get:∀{l:List RF},YF tp c l->∀r∈l,n6 (comp 60) (c.at (r.d tp)) (k7 (tp r.i))=some r.m.body
 |_::_,h,r,hr=>(aw.mp hr).elim (λz=>z▸h.1) (YF.get h.2 r)
theorem YM.get:∀{l:List RM},YM mt c l->∀r∈l,n6 (comp 60) (c.at (r.d mt)) (k7 (mt r.i r.j))=some r.m.body
 |_::_,h,r,hr=>(aw.mp hr).elim (λz=>z▸h.1) (YM.get h.2 r)
theorem PF.get:∀{l:List RF},PF tp K l->∀r∈l,∃f fd,PySem.W.nsIn K mainGlobals r.nm=some (some (.ref f))/\oi K r.nm r.nm (tp r.i) f fd
 |_::_,h,r,hr=>(aw.mp hr).elim (λz=>z▸h.1) (PF.get h.2 r)
theorem PM.get:∀{l:List RM},PM mt K l->∀r∈l,∃C f fd,PySem.W.nsIn K mainGlobals r.cl=some (some (.ref C))/\Meth K C r.nm f/\oi K r.nm r.qn (mt r.i r.j) f fd
 |_::_,h,r,hr=>(aw.mp hr).elim (λz=>z▸h.1) (PM.get h.2 r)
theorem PC.get:∀{l:List (Str×Nat)},PC K l->∀r∈l,∃C,PySem.W.nsIn K mainGlobals r.1=some (some (.ref C))/\ik K C/\PySem.W.makesIn K C=true/\PySem.W.keepIn K (.ref C)=true
 |_::_,h,r,hr=>(aw.mp hr).elim (λz=>z▸h.1) (PC.get h.2 r)
theorem PA.get:∀{l:List (Str×Str)},PA K l->∀r∈l,∃C,PySem.W.nsIn K mainGlobals r.2=some (some (.ref C))/\PySem.W.findIn K (.ref C) r.1=some none
 |_::_,h,r,hr=>(aw.mp hr).elim (λz=>z▸h.1) (PA.get h.2 r)
theorem PB.get:∀{l:List Str},PB K l->∀r∈l,PySem.W.nsIn K mainGlobals r=some none
 |_::_,h,r,hr=>(aw.mp hr).elim (λz=>z▸h.1) (PB.get h.2 r)
theorem PX.get:∀{l:List Str},PX K l->∀r∈l,∃C,PySem.W.nsIn K mainGlobals r=some (some (.ref C))/\PySem.W.excIn K C [.type "ValueError",.type "Exception",.type "BaseException",.type "object"] "ValueError.__new__"=true
 |_::_,h,r,hr=>(aw.mp hr).elim (λz=>z▸h.1) (PX.get h.2 r)
theorem BF.get:∀{l:List RF},BF tp l->∀r∈l,∀(kV doc pm:Value) (an:Option Addr) (fg ct:Value) (us:List Value),us.length=(r.N.take r.k).length->bindArgs (PySem.W.fnOf r.nm r.nm (u7 (tp r.i)) (k7 (tp r.i)) (j9 (tp r.i)) .none kV doc pm an fg ct) ⟨us,[]⟩=pure ((r.N.take r.k).zip us)
 |_::_,h,r,hr=>(aw.mp hr).elim (λz=>z▸h.1) (BF.get h.2 r)
theorem BM.get:∀{l:List RM},BM mt l->∀r∈l,∀(kV doc pm:Value) (an:Option Addr) (fg ct:Value) (us:List Value),us.length=(r.N.take r.k).length->bindArgs (PySem.W.fnOf r.nm r.qn (u7 (mt r.i r.j)) (k7 (mt r.i r.j)) (j9 (mt r.i r.j)) .none kV doc pm an fg ct) ⟨us,[]⟩=pure ((r.N.take r.k).zip us)
 |_::_,h,r,hr=>(aw.mp hr).elim (λz=>z▸h.1) (BM.get h.2 r)
end
def uu(N P:List Str)(sc:Scope):Bool:=decide (sc.kind=.function)&&!sc.isCoroutine&&!sc.isGenerator&&decide N.Nodup&&decide (N.take P.length=P)&&P.all (λx=>decide (sc.names.lookup x=some .local)||decide (sc.names.lookup x=some .cell))&&sc.names.all λy=>decide (y.2≠.free)
theorem Fz{N P:List Str}{sc:Scope}(h:uu N P sc=true):gW N P sc:=by
 unfold uu at h;simp only[Bool.and_eq_true,decide_eq_true_eq,Bool.not_eq_true',List.all_eq_true,Bool.or_eq_true] at h;obtain⟨⟨⟨⟨⟨⟨h1,h2⟩,h3⟩,h4⟩,h5⟩,h6⟩,h7⟩:=h;exact⟨h1,h2,h3,h4,h5,h6,h7⟩
theorem Us{h₀:Heap}{mg:Str->Option Value}{Cv:List Value}{newId:String}(X:K.In h₀)(G:h₀.Ns mainGlobals mg)(e:PySem.W.nsIn K mainGlobals x=some (some (.ref C)))(q:PySem.W.excIn K C Cv newId=true):PyProof.Rows.OwnCls x C Cv newId mg h₀:=by
 refine⟨bJ X G e,?_⟩;unfold PySem.W.excIn at q;split at q
 ·rename_i dd cd sl ho;split at q
  ·rename_i C' bm k0 k1 k2 k3 n k5 hm hs;simp only[Bool.and_eq_true,beq_iff_eq,Bool.not_eq_true'] at q;obtain⟨⟨⟨⟨⟨z1,z2⟩,rV⟩,ht⟩,br⟩,uC⟩:=q;subst z1;subst z2;obtain⟨nm,bs,mro,ns,qn,hd,sn,sub,ab,col,del⟩:=cd;dsimp only at hm rV br uC;subst hm rV;have oI:sl=#[k0,k1,k2,k3,some (.builtin n),k5]:=by
    obtain⟨l⟩:=sl;simp only at hs;rw[hs]
   subst oI;exact⟨bm,ns,nm,qn,bs,hd,sn,sub,ab,col,dd,k0,k1,k2,k3,k5,_,X _ _ ho,.of_isNs (PySem.W.isNs_of_in X br),PySem.W.nsMap_none_of_in X br uC,PySem.W.tail_of_in X ht⟩
  ·cases q
 ·cases q
def P0(K:PySem.W.Frag)(x:Str):Addr:=match PySem.W.nsIn K mainGlobals x with
 |some (some (.ref C))=>C
 |_=>0
def FP(K:PySem.W.Frag)(exc:List Str):Bool:=exc.all λx=>exc.all λy=>decide (PySem.W.exmOne K (.ref (P0 K x)) (.ref (P0 K y))=some (decide (x=y\/y="MintError")))
theorem JU{exc:List Str}(h:FP K exc=true){y:Str}{C':Addr}(hx:exc.contains x=true)(hy:exc.contains y=true)(hC:k9 K x C)(xO:k9 K y C'):PySem.W.exmOne K (.ref C) (.ref C')=some (decide (x=y\/y="MintError")):=by
 have h1:=dC.mp h x (by simpa using hx);have h2:=aQ (dC.mp h1 y (by simpa using hy));have e1:P0 K x=C:=by unfold P0;rw[show PySem.W.nsIn K mainGlobals x=_ from hC]
 have e2:P0 K y=C':=by unfold P0;rw[show PySem.W.nsIn K mainGlobals y=_ from xO]
 rw[e1,e2] at h2;exact h2
theorem yQ{α:Type}{f:α->Nat}:∀{l:List α},(l.map f).Nodup->∀r∈l,l.find? (λx=>Nat.beq (f x) (f r))=some r
 |y::l,nd,r,hr=>by
  rw[ba,fj] at nd;rcases aw.mp hr with rfl|hr
  ·rw[List.find?_cons_of_pos];exact Nat.beq_refl _
  ·rw[List.find?_cons_of_neg]
   ·exact yQ nd.2 r hr
   ·intro z;exact nd.1 (aC.mpr ⟨r,hr,(gY z).symm⟩)
theorem MD{α β:Type}{f:α->Nat}{g:β->Nat}{l:List α}{r:β}(h:g r∉l.map f):l.find? (λx=>Nat.beq (f x) (g r))=none:=by
 rw[List.find?_eq_none];intro x hx z;exact h (aC.mpr ⟨x,hx,gY z⟩)
section
variable{w:World}{h₀:Heap}{mg:Str->Option Value}{c:c8}{F:List RF}{M:List RM}{tp:Nat->Stmt}{mt:Nat->Nat->Stmt}
structure kf(K:PySem.W.Frag)(c:c8)(F:List RF)(M:List RM)(tp:Nat->Stmt)(mt:Nat->Nat->Stmt):Prop where
 qF:PF tp K F
 qM:PM mt K M
 qC:PC K c.cls
 qA:PA K c.mx
 qB:PB K c.blt
 qX:PX K c.exc
 xm:FP K c.exc=true
structure ke(c:c8)(F:List RF)(M:List RM)(tp:Nat->Stmt)(mt:Nat->Nat->Stmt):Prop where
 cf:c.fns=F.map λr=>(r.nm,r.id)
 cm:c.mh=M.map λr=>(r.nm,r.cl,r.id)
 ci:c.cls.all (λy=>M.any λr=>decide (r.cl=y.1)&&decide (r.nm="__init__")&&Nat.beq r.id y.2)=true
 nd:(F.map (·.id)++M.map (·.id)).Nodup
 sF:F.all (λr=>uu r.N (r.N.take r.k) (j9 (tp r.i))&&decide (r.m.ar=(r.N.take r.k).length)&&decide (r.m.n=r.N.length))=true
 sM:M.all (λr=>uu r.N (r.N.take r.k) (j9 (mt r.i r.j))&&decide (r.m.ar=(r.N.take r.k).length)&&decide (r.m.n=r.N.length))=true
 oF:YF tp c F
 oM:YM mt c M
 bF:BF tp F
 bM:BM mt M
theorem Gn(I:kf K c F M tp mt)(X:ke c F M tp mt)(r:RF)(hr:r∈F):∃f fd,iG K c (r.d tp) r.m f fd/\PySem.W.nsIn K mainGlobals r.nm=some (some (.ref f))/\qi F M r.id=some r.m:=by
 obtain⟨f,fd,a,q⟩:=I.qF.get r hr;have s:=dC.mp X.sF r hr;simp only[Bool.and_eq_true,decide_eq_true_eq] at s;have o:=X.oF.get r hr;refine⟨f,fd,⟨q,q.binds (X.bF.get r hr),Fz s.1.1,o,s.1.2,s.2⟩,a,?_⟩;unfold qi;rw[yQ (f:=(·.id)) (fY.mp X.nd).1 r hr]
theorem Gp(I:kf K c F M tp mt)(X:ke c F M tp mt)(r:RM)(hr:r∈M):∃C f fd,iG K c (r.d mt) r.m f fd/\PySem.W.nsIn K mainGlobals r.cl=some (some (.ref C))/\Meth K C r.nm f/\qi F M r.id=some r.m:=by
 obtain⟨C,f,fd,a,q1,q⟩:=I.qM.get r hr;have s:=dC.mp X.sM r hr;simp only[Bool.and_eq_true,decide_eq_true_eq] at s;have o:=X.oM.get r hr;refine⟨C,f,fd,⟨q,q.binds (X.bM.get r hr),Fz s.1.1,o,s.1.2,s.2⟩,a,q1,?_⟩;have nd:=fY.mp X.nd;unfold qi;rw[MD (f:=λr:RF=>r.id) (g:=λr:RM=>r.id) (r:=r) (λz=>nd.2.2 _ z _ (aC.mpr ⟨r,hr,rfl⟩) rfl),yQ (f:=λr:RM=>r.id) nd.2.1 r hr]
 rfl
theorem Me(I:kf K c F M tp mt)(Y:ke c F M tp mt)(X:K.In h₀)(G:h₀.Ns mainGlobals mg)(con:∀x d,c.con.lookup x=some d->∃v u,mg x=some u/\RelV v u/\∀ρ H,b6 K ρ H d v)(oW:∀x kvs,c.gd.lookup x=some kvs->∃A vs,mg x=some (.ref A)/\sS K w.params A vs/\nU K kvs vs):lX w K mg c (qi F M):=by
 refine⟨λx i hx=>?_,λx i hx=>?_,λx y i C hx hC=>?_,λf y C hx hC=>?_,con,λx hx=>?_,λx hx=>?_,λx y C C' hx hy hC xO=>JU I.xm hx hy hC xO,oW⟩
 ·have hm:=aH hx;rw[Y.cf] at hm;obtain⟨r,hr,e⟩:=aC.mp hm;cases e;obtain⟨f,fd,O,a,t⟩:=Gn I Y r hr;exact⟨_,_,f,fd,t,O,bJ X G a⟩
 ·have hm:=aH hx;have h1:=dC.mp Y.ci _ hm;obtain⟨r,hr,e⟩:=dB.mp h1;simp only[Bool.and_eq_true,decide_eq_true_eq] at e;obtain⟨⟨e1,e2⟩,e3⟩:=e;have e3:=gY e3;obtain⟨C,f,fd,O,a,q,t⟩:=Gp I Y r hr;obtain⟨C',a',hc,mk,kp⟩:=I.qC.get _ hm;rw[e1] at a;cases a.symm.trans a';rw[e2] at q;rw[e3] at t;exact⟨C,_,_,f,fd,t,O,bJ X G a,a,hc,⟨mk,q.at_,q.fn,kp⟩⟩
 ·rw[Y.cm] at hx;obtain⟨r,hr,e⟩:=aC.mp hx;cases e;obtain⟨C',f,fd,O,a,q,t⟩:=Gp I Y r hr;cases a.symm.trans hC;exact⟨_,_,f,fd,t,O,q⟩
 ·obtain⟨C',a,q⟩:=I.qA.get _ hx;cases a.symm.trans hC;exact q
 ·exact PySem.W.mg_none_of X G (I.qB.get x (by simpa using hx))
 ·obtain⟨C,a,q⟩:=I.qX.get x (by simpa using hx);exact⟨_,bJ X G a,a,λbase lF sk=>⟨_,_,_,_,Us lF sk a q,PySem.F.excBase_ValueError⟩⟩
end
end M
namespace M
open PySem L2
variable{g g':G}{i n k a b m p hd cl lc lf qc qf gv lr q:Nat}{o o':O}{j v u:Int}{P:eB}{Q:KD}{E:KX}{N:Ends}{ms ns:List Int}{l:List Nat}{α:Type}{c:d5}{x:Str}{y:D}{cs:List d5}{hs:Hs}{fs:Fs}{w:RW}{f:Nat×Int×Int}{s:Sd}
set_option hygiene false
local macro_rules|`(tactic|walk_at"w1")=>`(tactic|with_reducible first|refine FK ?_|refine Dn ?_|refine Dp ?_|refine Sv ?_|refine Mm ?_|refine Sy ?_|refine Oq ?_|refine Mp ?_|refine Dm ?_|refine yD ?_|refine wk ?_|(refine w_var (d:=?_) ?_ ?_;rotate_left;·with_unfolding_all rfl)|refine w_lit ?_|refine qj ?_|refine vQ ?_|refine Qr ?_|refine FJ ?_|refine Ol ?_|refine w_and ?_|refine w_or ?_|refine w_not ?_|refine w_ite ?_|refine FI ?_|refine Mn ?_|refine Om ?_|refine zQ ?_|refine tN ?_|refine Mq ?_|refine Sw ?_|refine Mr ?_|refine R8 ?_|refine Dq ?_|refine Qu ?_|refine Qv ?_|refine Ss ?_|refine OI ?_|refine OG ?_|refine OF ?_|refine OE ?_|refine QA ?_|refine CJ ?_|refine Qz ?_|refine QI ?_|refine QB ?_|refine QC ?_|refine QE ?_|refine QD ?_|refine QG ?_|refine QH ?_|refine QF ?_|refine pq ?_|refine Cc ?_|refine Cb ?_|refine BZ ?_|refine Ca ?_|refine BY ?_|refine Ar ?_|refine vt ?_|refine JZ ?_|refine jC ?_|refine Y5 ?_|refine OQ ?_|refine OR ?_|refine Bh ?_|refine wx ?_|refine wt ?_|refine wu ?_|refine AX ?_|refine Ro ?_|refine AN ?_)
local macro_rules|`(tactic|walk_at"w2")=>`(tactic|repeat(with_reducible first|walk_at "w1"|refine zM (by simp) ?_|refine tj (by simp) ?_|refine E2 (b0 (by assumption)) (by with_unfolding_all rfl) ?_|refine zE (b0 (by assumption)) ?_|refine uQ (by unfold Z7;decide) ?_))
local macro_rules|`(tactic|walk_at"w3")=>`(tactic|repeat(with_reducible first|walk_at "w1"|refine zM (by simp) ?_|refine tj (by simp) ?_|refine E2 (b0 (by assumption)) (by with_unfolding_all rfl) ?_|refine zE (b0 (by assumption)) ?_|refine uQ (by unfold Z7;decide) ?_|refine And.intro (show List.length _ <= 1000 from by simp) ?_|refine Gw (by with_unfolding_all rfl) ?_|refine A6 ?_|refine nW (by with_unfolding_all rfl) ?_))
local macro_rules|`(tactic|walk_at"")=>`(tactic|repeat(with_reducible first|walk_at "w1"|refine Oo ?_|refine Sx ?_|refine Mo ?_|refine BX ?_|refine AQ ?_|refine AO ?_|refine max2 ?_|refine min2 ?_|refine QW ?_|refine N7 ?_|refine Jx ?_|refine BP ?_|refine zM (by simp) ?_|refine tj (by simp) ?_|refine E2 (b0 (by assumption)) (by with_unfolding_all rfl) ?_|refine zE (b0 (by assumption)) ?_|refine uQ (by unfold Z7;decide) ?_|refine And.intro (show List.length _ <= 1000 from by simp) ?_|refine Gw (by with_unfolding_all rfl) ?_|refine A6 ?_|refine nW (by with_unfolding_all rfl) ?_|refine And.intro (wK (by assumption)) ?_|refine And.intro (wJ (by assumption)) ?_|refine And.intro (HP (by assumption)) ?_|refine T6 (by decide) ?_|refine zx (by decide) (by decide) ?_|refine YW ?_))
set_option hygiene true
abbrev cq(a:ME):ME:=.cons a .nil
abbrev cZ(a b:ME):ME:=.cons a (.cons b .nil)
abbrev dD(a b c:ME):ME:=.cons a (.cons b (.cons c .nil))
abbrev nt(a b c d:ME):ME:=.cons a (.cons b (.cons c (.cons d .nil)))
abbrev nr(a b c d e:ME):ME:=.cons a (.cons b (.cons c (.cons d (.cons e .nil))))
abbrev uH(a b c d e f:ME):ME:=.cons a (.cons b (.cons c (.cons d (.cons e (.cons f .nil)))))
abbrev BL(a b c d e f g:ME):ME:=.cons a (.cons b (.cons c (.cons d (.cons e (.cons f (.cons g .nil))))))
abbrev cw(o:PySem.CmpOp)(a b:ME):ME:=.dE (.prim (.cmp o) (.cons a (.cons b .nil)))
abbrev bh(a b:ME):ME:=.prim .ix (.cons a (.cons b .nil))
abbrev aO(a:Int):ME:=.lit (.int a)
abbrev bT(a:PySem.Str):ME:=.lit (.str a)
abbrev bV(p:Pr)(a:ME):ME:=.prim p (.cons a .nil)
abbrev bC(p:Pr)(a b:ME):ME:=.prim p (.cons a (.cons b .nil))
abbrev ao:ME:=.var 0
abbrev aA:ME:=.var 1
abbrev aM:ME:=.var 2
abbrev bf:ME:=.var 3
abbrev cA:ME:=.var 4
abbrev dY:ME:=.var 5
abbrev eV:ME:=.var 6
abbrev gB:ME:=.var 7
abbrev jM:ME:=.var 8
abbrev ku:ME:=.var 9
def J9:aJ:=⟨2,5,(.seq (.ifs (.de (cw .Lt (bh ao (aO 2)) aA) (cw .Lt (bh ao (aO 1)) (bV .len (bh ao (aO 0))))) (.seq (.set 2 (bh (bh ao (aO 0)) (bh ao (aO 1)))) (.seq (.cF ao (aO 1) (bC (.bin .Add) (bh ao (aO 1)) (aO 1))) (.seq (.cF ao (aO 2) (aO 0)) (.seq (.ifs (cw .GtE aM (bC (.bin .Pow) (aO 10) (aO 18))) (.seq (.cF ao (aO 2) aM) .pass) (.seq (.cF ao (aO 3) (bC (.bin .Mod) (bC (.bin .Add) (bC (.bin .Add) (bC (.bin .Mult) (bh ao (aO 3)) (aO 48271)) (bC (.bin .Mult) (bC (.bin .Mod) aM (aO 2147483629)) (aO 69621))) (aO 12345)) (aO 2147483647))) .pass)) .pass)))) .pass) (.seq (.ifs (cw .GtE (bh ao (aO 2)) aA) (.seq (.set 3 (bC (.bin .Mod) (bh ao (aO 2)) aA)) (.seq (.cF ao (aO 2) (bC (.bin .FloorDiv) (bh ao (aO 2)) aA)) (.seq (.ret bf) .pass))) .pass) (.seq (.set 4 (bh ao (aO 3))) (.seq (.cF ao (aO 3) (bC (.bin .Mod) (bC (.bin .Add) (bC (.bin .Add) (bC (.bin .Mult) (bC (.bin .Mod) (bC (.bin .Mult) cA cA) (aO 2147483629)) (aO 5)) (bC (.bin .Mult) cA (aO 16811))) (aO 2531011)) (aO 2147483647))) (.seq (.ret (bC (.bin .Mod) (bC (.bin .Add) (bC (.bin .FloorDiv) (bh ao (aO 3)) (aO 59)) (bC (.bin .Mult) (bC (.bin .Mod) (bh ao (aO 3)) (aO 8191)) (aO 31))) aA)) .pass)))))⟩
def pA:aJ:=⟨1,2,(.seq (.set 1 (.call 4 (cZ ao (bC (.bin .Pow) (aO 10) (aO 9))))) (.seq (.ifs (cw .Eq (.call 4 (cZ ao (aO 2))) (aO 0)) (.seq (.set 1 (bC (.bin .Add) aA (bC (.bin .Pow) (aO 10) (aO 25)))) .pass) .pass) (.seq (.ifs (cw .Eq (.call 4 (cZ ao (aO 2))) (aO 0)) (.seq (.ret (bC (.bin .Sub) (bV (.un .USub) (aO 1)) aA)) .pass) .pass) (.seq (.ret aA) .pass))))⟩
structure i8(g:G)(d:Nat):Prop where
 ex:∃(s:Nat) (p b r:Int) (xs:List Int),g[d]?=some (.lst [.ref s,.int p,.int b,.int r])/\g[s]?=some (.lst (xs.map .int))/\s<d/\0<=p/\0<=b/\0<=r/\r<2147483647
structure Gr(d:Nat)(g g':G):Prop where
 len:g.length<=g'.length
 old:∀i,i≠d->i<g.length->g'[i]?=g[i]?
theorem Gr.refl(d:Nat)(g:G):Gr d g g:=⟨aj _,λ_ _ _=>rfl⟩
theorem Gr.trans{d:Nat}{g g1 g2:G}(a:Gr d g g1)(b:Gr d g1 g2):Gr d g g2:=⟨aI a.len b.len,λi h1 h2=>(b.old i h1 (ak h2 a.len)).trans (a.old i h1 h2)⟩
theorem Gr.set(d:Nat)(g:G)(o:O):Gr d g (g.set d o):=⟨by simp,λi h1 h2=>aN (bg h1)⟩
theorem Gr.snoc(d:Nat)(g:G)(o:O):Gr d g (g++[o]):=⟨by simp,λi h1 h2=>aG h2⟩
theorem Gr.at{d:Nat}(h:Gr d g g')(hi:i≠d)(e:g[i]?=some o):g'[i]?=some o:=(h.old i hi (ax.mp e).1).trans e
theorem m7(h:g[i]?=some o):i<g.length:=(ax.mp h).1
theorem i8.lt{d:Nat}(h:i8 g d):d<g.length:=by
 obtain⟨_,_,_,_,_,e,_⟩:=h.ex;exact m7 e
theorem i8.snoc{d:Nat}(h:i8 g d)(o:O):i8 (g++[o]) d:=by
 obtain⟨s,p,b,r,xs,e1,e2,q⟩:=h.ex;exact⟨s,p,b,r,xs,by rw[aG (m7 e1)];exact e1,by rw[aG (m7 e2)];exact e2,q⟩
def v8:MS->MS
 |.seq _ b=>b
 |x=>x
theorem JQ{i:Int}(h1:-(2 ^ 64)<i)(h2:i<2 ^ 64):ph i j:=.inl ⟨h1,h2⟩
theorem tG{i:Int}(h1:-(2 ^ 64)<j)(h2:j<2 ^ 64):ph i j:=.inr ⟨h1,h2⟩
theorem UE{d:Nat}{n:Int}{c2:Option D}(hN:N.rt=Q)(D0:i8 g d)(hn:0<n)(mW:n<1073741824)(h:∀r g',0<=r->r<n->i8 g' d->Gr d g g'->Q (.int r) g'):wpS P (v8 J9.body) N [some (.ref d),some (.int n),c2,none,none] g E:=by
 obtain⟨s,p,b,r,xs,e1,e2,mU,hp,hb,hr,rD⟩:=D0.ex;have dF:=m7 e1;subst hN;dsimp[J9,v8];walk_at "w2";refine if2 (λc=>?_) (λc=>?_)
 ·walk_at "w2";refine T6 hn ?_;walk_at "w2";refine Cw ⟨hn,mW⟩ ?_;walk_at "w2";refine qt e1 (by with_unfolding_all rfl) ?_;walk_at "w2";refine h _ _ (gR _ (by omega)) (fJ _ hn) ⟨s,p,b / n,r,xs,?_,?_,mU,hp,Int.ediv_nonneg hb (by omega),hr,rD⟩ (Gr.set d g _)
  ·rw[aY dF];rfl
  ·rw[aN (bp mU)];exact e2
 ·walk_at "w2";have AZ:-(2 ^ 64)<r/\r<2 ^ 64:=⟨by omega,by omega⟩
  refine ql (JQ AZ.1 AZ.2) ?_;walk_at "w2";refine T6 (by decide) ?_;walk_at "w2";refine ql (tG (by decide) (by decide)) ?_;walk_at "w2";refine ql (tG (by decide) (by decide)) ?_;walk_at "w2";refine T6 (by decide) ?_;walk_at "w2";refine qt e1 (by with_unfolding_all rfl) ?_;generalize rE:(r*r % 2147483629*5+r*16811+2531011) % 2147483647=r';have q0:0<=r':=by rw[<- rE];exact gR _ (by decide)
  have q1:r'<2147483647:=by rw[<- rE];exact fJ _ (by decide)
  have JF:(g.set d (.lst [.ref s,.int p,.int b,.int r']))[d]?=some (.lst [.ref s,.int p,.int b,.int r']):=aY dF;show wpS P _ _ _ (g.set d (.lst [.ref s,.int p,.int b,.int r'])) E;walk_at "w2";refine Cw ⟨by decide,by decide⟩ ?_;walk_at "w2";refine T6 (by decide) ?_;walk_at "w2";refine ql (tG (by decide) (by decide)) ?_;walk_at "w2";refine T6 hn ?_;walk_at "w2";refine h _ _ (gR _ (by omega)) (fJ _ hn) ⟨s,p,b,r',xs,JF,?_,mU,hp,hb,q0,q1⟩ (Gr.set d g _);rw[aN (bp mU)];exact e2
theorem i9{T:Nat->Option aJ}(hT:T 4=some J9){d:Nat}{n:Int}(D0:i8 g d)(hn:0<n)(mW:n<1073741824)(h:∀r g',0<=r->r<n->i8 g' d->Gr d g g'->Q (.int r) g'):a8 T (k+1) 4 [.ref d,.int n] g Q E:=by
 obtain⟨s,p,b,r,xs,e1,e2,mU,hp,hb,hr,rD⟩:=D0.ex;have dF:=m7 e1;refine call_of hT rfl ?_;have tail:∀(g':G) (c2:Option D),i8 g' d->Gr d g g'->wpS (a8 T k) (v8 J9.body) ⟨λ_ g'=>Q .bc g',Q,λ_ _=>False,λ_ _=>False⟩ [some (.ref d),some (.int n),c2,none,none] g' E :=
  λg' c2 D1 gr=>UE rfl D1 hn mW λr g2 a b c e=>h r g2 a b c (gr.trans e)
 dsimp[J9,b5,List.replicate];walk_at "w2";refine if2 (λc=>?_) (λc=>?_)
 ·walk_at "w2";refine if2 (λc'=>?_) (λc'=>?_)
  ·walk_at "w2";have fz:p.toNat<xs.length:=by
    rw[ay] at c';omega
   have ea:iF (xs.map D.int) p=some (.int xs[p.toNat]):=by
    have:=vq (xs:=xs.map D.int) (j:=p.toNat) (v:=.int xs[p.toNat]) (by rw[aF,az fz];rfl)
    rwa [show((p.toNat:Nat):Int)=p by omega] at this
   refine E2 (b0 e2) ea ?_;generalize xs[p.toNat]=cell;walk_at "w2";refine qt e1 (by with_unfolding_all rfl) ?_;have f1:(g.set d (.lst [.ref s,.int (p+1),.int b,.int r]))[d]?=some (.lst [.ref s,.int (p+1),.int b,.int r]):=aY dF;show wpS (a8 T k) _ _ _ (g.set d (.lst [.ref s,.int (p+1),.int b,.int r])) E;walk_at "w2";refine qt f1 (by with_unfolding_all rfl) ?_;rw[qy];have f2:(g.set d (.lst [.ref s,.int (p+1),.int 0,.int r]))[d]?=some (.lst [.ref s,.int (p+1),.int 0,.int r]):=aY dF;show wpS (a8 T k) _ _ _ (g.set d (.lst [.ref s,.int (p+1),.int 0,.int r])) E;walk_at "w2";refine if2 (λc2=>?_) (λc2=>?_)
   ·walk_at "w2";refine qt f2 (by with_unfolding_all rfl) ?_;rw[qy];refine tail _ _ ⟨s,p+1,cell,r,xs,aY dF,by rw[aN (bp mU)];exact e2,mU,by omega,?_,hr,rD⟩ (Gr.set d g _);have:(10:Int) ^ (18:Int).toNat<=cell:=c2;have BK:(0:Int)<=10 ^ (18:Int).toNat:=by decide
    omega
   ·walk_at "w2";refine ql (tG (by decide) (by decide)) ?_;walk_at "w2";refine T6 (by decide) ?_;walk_at "w2";refine ql (tG (by decide) (by decide)) ?_;walk_at "w2";refine T6 (by decide) ?_;walk_at "w2";refine qt f2 (by with_unfolding_all rfl) ?_;rw[qy];exact tail _ _ ⟨s,p+1,0,_,xs,aY dF,by rw[aN (bp mU)];exact e2,mU,by omega,by decide,gR _ (by decide),fJ _ (by decide)⟩ (Gr.set d g _)
  ·walk_at "w1";exact tail _ _ D0 (Gr.refl _ _)
 ·walk_at "w1";walk_at "w1";exact tail _ _ D0 (Gr.refl _ _)
theorem zW{T:Nat->Option aJ}(hT:T 4=some J9)(IS:T 5=some pA){d:Nat}(D0:i8 g d)(h:∀r g',i8 g' d->Gr d g g'->Q (.int r) g'):a8 T (k+2) 5 [.ref d] g Q E:=by
 refine call_of IS rfl ?_;dsimp[pA,b5,List.replicate];walk_at "w2";refine i9 hT D0 (by decide) (by decide) λr1 g1 _ _ D1 G1=>?_;walk_at "w2";refine i9 hT D1 (by decide) (by decide) λr2 g2 _ _ D2 G2=>?_;walk_at "w2";have GQ:=G1.trans G2;have last:∀(x:Int),wpS (a8 T (k+1)) (v8 (v8 pA.body)) ⟨λ_ g'=>Q .bc g',Q,λ_ _=>False,λ_ _=>False⟩ [some (.ref d),some (.int x)] g2 E:=λx=>by
  dsimp[pA,v8];walk_at "w2";refine i9 hT D2 (by decide) (by decide) λr3 g3 _ _ D3 G3=>?_;walk_at "w2";refine if2 (λc=>?_) (λc=>?_)
  ·walk_at "w2";exact h _ _ D3 (GQ.trans G3)
  ·walk_at "w2";exact h _ _ D3 (GQ.trans G3)
 refine if2 (λc=>?_) (λc=>?_)
 ·refine FK ?_;refine Dp ?_;refine qj ?_;walk_at "w1";refine qj ?_;walk_at "w1";walk_at "w1";refine uQ (by unfold Z7;decide) ?_;walk_at "w1";exact last _
 ·exact last _
def zr:aJ:=⟨1,1,(.seq (.ret (.de (bC .isin ao (.lit (.ty "int"))) (.cG (bC .isin ao (.lit (.ty "bool")))))) .pass)⟩
def T8:aJ:=⟨3,3,(.seq (.ret (.de (.call 38 (cq ao)) (.chain .LtE .LtE aA ao aM))) .pass)⟩
structure NF(T:Nat->Option aJ):Prop where
 nf:T 1=some T8
 is:T 38=some zr
def K0:aJ:=⟨1,3,(.seq (.set 1 (aO 0)) (.seq (.eA (.one 2) (.eL ao) (.seq (.ifs (.cG (.dE (.call 1 (dD aM aA (aO 7))))) (.seq (.ret (.lit (.bl false))) .pass) .pass) (.seq (.set 1 (bC (.bin .Add) aM (aO 1))) .pass))) (.seq (.ret (.lit (.bl true))) .pass)))⟩
def uX:aJ:=⟨1,1,(.seq (.ret (.prim .lst (nt (bV .list (bC (.lx false true) ao (aO 63))) (aO 0) (aO 0) (aO 29)))) .pass)⟩
def tS:aJ:=⟨1,1,(.seq (.ret (.de (bC .isin ao (.lit (.ty "int"))) (.cG (bC .isin ao (.lit (.ty "bool")))))) .pass)⟩
def A2:aJ:=⟨2,2,(.seq (.ifs (cw .Is aA (.lit .bc)) (.seq (.ret (bC (.cmp .Is) ao (.lit .bc))) .pass) .pass) (.seq (.ifs (.dE (bC .isin aA (.lit (.ty "bool")))) (.seq (.ret (.de (bC .isin ao (.lit (.ty "bool"))) (bC (.cmp .Eq) ao aA))) .pass) .pass) (.seq (.ifs (.dE (bC .isin aA (.lit (.ty "int")))) (.seq (.ret (.de (.call 6 (cq ao)) (bC (.cmp .Eq) ao aA))) .pass) .pass) (.seq (.ifs (.dE (bC .isin aA (.lit (.ty "str")))) (.seq (.ret (.de (bC .isin ao (.lit (.ty "str"))) (bC (.cmp .Eq) ao aA))) .pass) .pass) (.seq (.ifs (.gp (cw .NotEq (bC .isin aA (.lit (.ty "tuple"))) (bC .isin ao (.lit (.ty "tuple")))) (cw .NotEq (bC .isin aA (.lit (.ty "list"))) (bC .isin ao (.lit (.ty "list"))))) (.seq (.ret (.lit (.bl false))) .pass) .pass) (.seq (.ifs (cw .NotEq (bV .len ao) (bV .len aA)) (.seq (.ret (.lit (.bl false))) .pass) .pass) (.seq (.ret (bV .all (.comp [1,0] 4 (.one 3) (.fq (bV .len aA)) .no (.call 7 (cZ (bh aA bf) (bh ao bf)))))) .pass)))))))⟩
def Q2:aJ:=⟨1,1,(.seq (.ret (bC (.cmp .Eq) (bV .list ao) (.comp [0] 3 (.one 2) (.fq (aO 8)) (cw .In aM ao) aM))) .pass)⟩
theorem M8{g:G}{n:Nat}:∀ms:List Int,(ms.map D.int).mapM (rd g n)=some (ms.map PyData.int)
 |[]=>rfl
 |m::r=>by
  rw[ba,List.mapM_cons,M8 r];cases n<;>rfl
theorem lay_ints:∀ms:List Int,PyData.canLayAll0 (ms.map PyData.int)=true
 |[]=>by simp[PyData.canLayAll0]
 |m::r=>by simp[PyData.canLayAll0,PyData.canLay0,lay_ints r]
theorem EN:∀ms ns:List Int,PyData.eqvAll (ms.map PyData.int) (ns.map PyData.int)=decide (ms=ns)
 |[],[]=>by simp[PyData.eqvAll]
 |[],_::_=>by simp[PyData.eqvAll]
 |_::_,[]=>by simp[PyData.eqvAll]
 |m::r,n::q=>by
  simp only[List.map_cons,PyData.eqvAll,PyData.eqv,EN r q];by_cases h:m=n
  ·subst h;simp
  ·simp[h]
theorem TX{i:Int}{k:Bool->Prop}(h:k (ms.any λm=>m==i)):rm g (.int i) (.tup (ms.map .int)) k:=by
 refine⟨_,.inr ⟨_,_,_,rfl,M8 ms,rfl,lay_ints ms,by simp[PyData.canLay0],rfl⟩,?_⟩;rw[List.any_map];exact h
theorem TL{k:Bool->Prop}(ha:b7 g a=some (ms.map .int))(hb:b7 g b=some (ns.map .int))(h:k (decide (ms=ns))):pY g (.ref a) (.ref b) k:=by
 refine⟨_,.inr (.inr (.inr ⟨.list (ms.map .int),.list (ns.map .int),?_,?_,?_,?_,rfl⟩)),?_⟩
 ·simp only[rd];rw[ha];dsimp only;rw[M8];rfl
 ·simp only[rd];rw[hb];dsimp only;rw[M8];rfl
 ·simp[PyData.canLay0,lay_ints]
 ·simp[PyData.canLay0,lay_ints]
 ·simp only[PyData.eqv,EN];exact h
section
variable{T:Nat->Option aJ}{d:Nat}
theorem Q6(h1:NF T){i:Int}(h:Q (.bl true) g):a8 T (k+1) 38 [.int i] g Q E:=by
 refine call_of h1.is rfl ?_;dsimp[zr,b5,List.replicate];walk_at "w2";refine fL (c:="int") (b:=true) (by decide) rfl ?_;walk_at "w2";refine fL (c:="bool") (b:=false) (by decide) rfl ?_;walk_at "w2";exact h
theorem E6(h1:NF T){i l m:Int}(h:Q (.bl (decide (l<=i)&&decide (i<=m))) g):a8 T (k+2) 1 [.int i,.int l,.int m] g Q E:=by
 refine call_of h1.nf rfl ?_;dsimp[T8,b5,List.replicate];walk_at "w2";refine Q6 h1 ?_;walk_at "w2";refine if2 (λc=>?_) (λc=>?_)
 ·rw[aT c] at h;walk_at "w2";exact h
 ·rw[aR c] at h;exact h
def gm:Int->List Int->Bool
 |_,[]=>true
 |l,x::r=>(decide (l<=x)&&decide (x<=7))&&gm (x+1) r
theorem Z9(h1:NF T)(h2:T 2=some K0)(h:Q (.bl (gm 0 ms)) g):a8 T (k+3) 2 [.tup (ms.map .int)] g Q E:=by
 refine call_of h2 rfl ?_;dsimp[K0,b5,List.replicate];walk_at "w2";refine va (b9 T _) (Bj (b9 T _) ?_);walk_at "w2";refine⟨_,rfl,_,λi Z g'=>g'=g/\∃(l:Int) (z:Option D),Z=[some (.tup (ms.map .int)),some (.int l),z]/\gm 0 ms=gm l (ms.drop i),λ_ _ _ _=>V2,⟨rfl,0,none,rfl,rfl⟩,λi x Z g' hx p=>?_,λZ g' p=>?_⟩
 ·obtain⟨rfl,l,z,rfl,e⟩:=p;rw[aF] at hx;cases em:ms[i]? with
  |none=>rw[em] at hx;cases hx
  |some m =>
   rw[em] at hx;cases hx;have hi:=(ax.mp em).1;have ed:ms.drop i=m::ms.drop (i+1):=by
    rw[dG hi]
    congr 1
    exact(ax.mp em).2
   rw[ed] at e;simp only[gm] at e;show wpS _ _ _ _ _ _;walk_at "w2";refine E6 h1 ?_;walk_at "w2";cases hc:(decide (l<=m)&&decide (m<=7)) with
   |true =>
    rw[hc,Bool.true_and] at e;show wpS _ _ _ _ _ _;walk_at "w2";exact⟨rfl,m+1,some (.int m),rfl,e⟩
   |false =>
    rw[hc,mL] at e;rw[e] at h;show wpS _ _ _ _ _ _;walk_at "w2";exact h
 ·obtain⟨rfl,l,z,rfl,e⟩:=p;rw[List.drop_eq_nil_of_le (by simp)] at e;simp only[gm] at e;rw[e] at h;show wpS _ _ _ _ _ _;walk_at "w2";exact h
theorem Ni(h3:T 3=some uX)(hg:g[a]?=some (.ng (ns.map .int)))(h:∀d g',i8 g' d->g.length<=d->(∀i,i<g.length->g'[i]?=g[i]?)->Q (.ref d) g'):a8 T (k+1) 3 [.ref a] g Q E:=by
 refine call_of h3 rfl ?_;dsimp[uX,b5,List.replicate];walk_at "w2";refine LD (Ua hg) ?_;walk_at "w2";refine Rn (l:=cut (ns.map D.int) none (some 63)) (b0 (by simp)) ?_;walk_at "w2";have ec:cut (ns.map D.int) none (some 63)=(cut ns none (some 63)).map D.int:=by
  unfold cut;simp[List.map_take,List.map_drop]
 refine h _ _ ⟨g.length+1,0,0,29,cut ns none (some 63),?_,?_,?_,by decide,by decide,by decide,by decide⟩ (by simp) (λi hi=>?_)
 ·simp
 ·rw[<- ec];simp
 ·simp
 ·simp[List.getElem?_append,hi,Nat.lt_of_lt_of_le hi (by omega:g.length<=g.length+1),Nat.lt_of_lt_of_le hi (by omega:g.length<=g.length+1+1)]
theorem EU(h8:T 8=some Q2)(h:∀g',Gr d g g'->(i8 g d->i8 g' d)->Q (.bl (decide (ms=((List.range 8).map λ(n:Nat)=>(n:Int)).filter λs=>ms.any λm=>m==s))) g'):a8 T (k+1) 8 [.tup (ms.map .int)] g Q E:=by
 refine call_of h8 rfl ?_;dsimp[Q2,b5,List.replicate];walk_at "w2";refine VG (b9 T _) ?_;walk_at "w2";refine⟨8,rfl,by decide,λi ys Z g'=>g'=g++[.lst (ms.map .int)]/\ys.length<=i/\(∃z w,Z=[some (.tup (ms.map .int)),z,w])/\ys=((((List.range i).map λ(n:Nat)=>(n:Int)).filter λs=>ms.any λm=>m==s).map D.int),⟨rfl,by simp,⟨none,none,rfl⟩,rfl⟩,λi ys Z g' p=>p.2.1,λi ys Z g' hi p=>?_,λys Z g' p=>?_⟩
 ·obtain⟨rfl,hl,⟨z,w,rfl⟩,e⟩:=p;show dq _ _ _ _ _ _;walk_at "w2";refine Ak (TX ?_);walk_at "w2";have er:(List.range (i+1)).map (λ(n:Nat)=>(n:Int))=(List.range i).map (λ(n:Nat)=>(n:Int))++[(i:Int)]:=by rw[List.range_succ];simp
  cases hc:(ms.any λm=>m==(i:Int)) with
  |true =>
   refine jC ?_;walk_at "w2";refine⟨rfl,by simp;omega,⟨_,_,rfl⟩,?_⟩;rw[er,dc,dU,<- e];simp[hc]
  |false =>
   refine Y5 ?_;refine⟨rfl,by omega,⟨_,_,rfl⟩,?_⟩;rw[er,dc,dU,<- e];simp[hc]
 ·obtain⟨rfl,hl,_,e⟩:=p;rw[e];refine vM (TL (ms:=ms) (b0 (by simp)) (b0 (by simp;rfl)) ?_);exact h _ ((Gr.snoc d g _).trans (Gr.snoc d _ _)) λD0=>(D0.snoc _).snoc _
end
theorem CQ:∀{ms:List Int} {l:Int},ms.Pairwise (· < ·)->(∀m∈ms,l<=m/\m<=7)->gm l ms=true
 |[],_,_,_=>rfl
 |m::r,l,hp,h=>by
  obtain⟨h1,h2⟩:=cC.mp hp;have hm:=h m (by simp);simp only[gm];rw[aT hm.1,aT hm.2,CQ h2 λx hx=>⟨by have:=h1 x hx;omega,(h x (by simp[hx])).2⟩]
  rfl
theorem A4{l:List α}{r:Int}(h0:0<=r)(h1:r<l.length):∃v,iF l r=some v/\v∈l:=by
 have hi:r.toNat<l.length:=by omega
 refine⟨l[r.toNat],?_,eU hi⟩;have:=vq (xs:=l) (j:=r.toNat) (v:=l[r.toNat]) (az hi)
 rwa [show((r.toNat:Nat):Int)=r by omega] at this
section
variable{T:Nat->Option aJ}
theorem FW(h7:T 7=some A2){a b:Bool}(h:Q (.bl (a==b)) g):a8 T (k+1) 7 [.bl a,.bl b] g Q E:=by
 refine call_of h7 rfl ?_;dsimp[A2,b5,List.replicate];walk_at "w2";walk_at "w2";refine fL (c:="bool") (b:=true) (by decide) rfl ?_;walk_at "w2";refine fL (c:="bool") (b:=true) (by decide) rfl ?_;walk_at "w2";exact h
end
theorem Ed(ms:List Int):gm 0 ms=decide (ms=((List.range 8).map λ(n:Nat)=>(n:Int)).filter λs=>ms.any λm=>m==s):=by
 rw[bY,dW];constructor
 ·intro h;have key:∀(ms:List Int) (l:Int),gm l ms=true->ms.Pairwise (· < ·)/\∀m∈ms,l<=m/\m<=7:=by
   intro ms
   induction ms with
   |nil=>intro l _;exact⟨List.Pairwise.nil,by simp⟩
   |cons m r ih =>
    intro l h;simp only[gm,Bool.and_eq_true,decide_eq_true_eq] at h;obtain⟨⟨h1,h2⟩,h3⟩:=h;obtain⟨p1,p2⟩:=ih (m+1) h3;refine⟨cC.mpr ⟨λx hx=>by have:=p2 x hx;omega,p1⟩,λx hx=>?_⟩;rcases aw.mp hx with z|z
    ·subst z;exact⟨h1,h2⟩
    ·have:=p2 x z;omega
  obtain⟨p1,p2⟩:=key ms 0 h;have uniq:∀(xs ys:List Int),xs.Pairwise (· < ·)->ys.Pairwise (· < ·)->(∀z,z∈xs↔z∈ys)->xs=ys:=by
   intro xs
   induction xs with
   |nil =>
    intro ys _ _ h;cases ys with
    |nil=>rfl
    |cons y r=>exact absurd ((h y).mpr (by simp)) (by simp)
   |cons x xs ih =>
    intro ys hx hy h;cases ys with
    |nil=>exact absurd ((h x).mp (by simp)) (by simp)
    |cons y ys =>
     obtain⟨a1,a2⟩:=cC.mp hx;obtain⟨b1,b2⟩:=cC.mp hy;have JA:x=y:=by
      rcases aw.mp ((h x).mp (by simp)) with z|z
      ·exact z
      ·rcases aw.mp ((h y).mpr (by simp)) with w|w
       ·exact w.symm
       ·have:=b1 x z;have:=a1 y w;omega
     subst JA
     congr 1
     refine ih ys a2 b2 λz=>⟨λhz=>?_,λhz=>?_⟩
     ·rcases aw.mp ((h z).mp (by simp[hz])) with w|w
      ·subst w;exact absurd (a1 z hz) (by omega)
      ·exact w
     ·rcases aw.mp ((h z).mpr (by simp[hz])) with w|w
      ·subst w;exact absurd (b1 z hz) (by omega)
      ·exact w
  refine uniq _ _ p1 ?_ λz=>?_
  ·refine vZ _ ?_
   decide
  ·simp only[List.mem_filter,List.any_eq_true,beq_iff_eq,exists_eq_right,List.mem_map,List.mem_range];refine⟨λhz=>⟨⟨z.toNat,by have:=p2 z hz;omega,by have:=p2 z hz;omega⟩,hz⟩,λhz=>hz.2⟩
 ·intro h;rw[h];refine CQ ?_ λm hm=>?_
  ·refine vZ _ ?_
   decide
  ·obtain⟨hm,_⟩:=cy.mp hm;obtain⟨n,hn,rfl⟩:=aC.mp hm;have:=List.mem_range.mp hn;omega
def x8:aJ:=⟨1,8,(.seq (.kM (.many [1,2,3,4,5]) ao) (.seq (.set 6 (.de (.call 1 (dD aA (aO 1) (aO 99))) (.call 2 (cq aM)))) (.seq (.set 7 (.de (.call 1 (dD bf (aO 1) (aO 99))) (.call 2 (cq cA)))) (.seq (.ret (.de eV (.de gB (.call 1 (dD dY (aO 0) (aO 9999)))))) .pass))))⟩
def L6:aJ:=⟨1,1,(.seq (.ifs (.gp (.cG (.dE (.chain .LtE .LtE (aO 1) (bh ao (aO 0)) (aO 99)))) (.gp (.cG (.dE (.chain .LtE .LtE (aO 1) (bh ao (aO 2)) (aO 99)))) (.cG (.dE (.chain .LtE .LtE (aO 0) (bh ao (aO 4)) (aO 9999)))))) (.seq (.ret (.lit (.bl false))) .pass) .pass) (.seq (.ret (.de (.call 8 (cq (bh ao (aO 1)))) (.call 8 (cq (bh ao (aO 3)))))) .pass))⟩
def S6:aJ:=⟨2,10,(.seq (.set 2 (.call 4 (cZ ao (aO 12)))) (.seq (.kM (.many [3,4,5,6,7]) aA) (.seq (.set 8 (bh (.prim .lst (uH (bC .tup (aO 1) (aO 0)) (bC .tup (aO 3) (aO 3)) (bV .tup (aO 8)) (bC .tup (bV (.un .USub) (aO 1)) (aO 2)) (bC .tup (aO 0) (aO 9)) (bC .tup (aO 7) (bC (.bin .Pow) (aO 10) (aO 20))))) (.call 4 (cZ ao (aO 6))))) (.seq (.set 9 (bh (.prim .lst (nt (aO 0) (aO 100) (bV (.un .USub) (aO 1)) (.call 5 (cq ao)))) (.call 4 (cZ ao (aO 4))))) (.seq (.ifs (cw .Eq aM (aO 0)) (.seq (.ret (.prim .tup (nr ku cA dY eV gB))) .pass) .pass) (.seq (.ifs (cw .Eq aM (aO 1)) (.seq (.ret (.prim .tup (nr bf jM dY eV gB))) .pass) .pass) (.seq (.ifs (cw .Eq aM (aO 2)) (.seq (.ret (.prim .tup (nr bf cA ku eV gB))) .pass) .pass) (.seq (.ifs (cw .Eq aM (aO 3)) (.seq (.ret (.prim .tup (nr bf cA dY jM gB))) .pass) .pass) (.seq (.ifs (cw .Eq aM (aO 4)) (.seq (.ret (.prim .tup (nr bf cA dY eV (bh (.prim .lst (nt (bV (.un .USub) (aO 1)) (aO 10000) (aO 9999) (.call 5 (cq ao)))) (.call 4 (cZ ao (aO 4))))))) .pass) .pass) (.seq (.ret aA) .pass))))))))))⟩
structure d5 where
 lo:Int
 lm:List Int
 up:Int
 um:List Int
 yr:Int
def d5.d(c:d5):D:=.tup [.int c.lo,.tup (c.lm.map .int),.int c.up,.tup (c.um.map .int),.int c.yr]
def j7(c:d5):Bool:=((decide (1<=c.lo)&&decide (c.lo<=99))&&gm 0 c.lm)&&(((decide (1<=c.up)&&decide (c.up<=99))&&gm 0 c.um)&&(decide (0<=c.yr)&&decide (c.yr<=9999)))
section
variable{T:Nat->Option aJ}{d:Nat}
theorem Fc(h1:NF T)(h2:T 2=some K0)(uG:T 12=some x8)(h:Q (.bl (j7 c)) g):a8 T (k+4) 12 [c.d] g Q E:=by
 refine call_of uG rfl ?_;dsimp[x8,b5,List.replicate,d5.d];walk_at "w3";refine E6 h1 ?_;have s1:∀b:Bool,b=((decide (1<=c.lo)&&decide (c.lo<=99))&&gm 0 c.lm)->wpS (a8 T (k+3)) (v8 (v8 x8.body)) ⟨λ_ g'=>Q .bc g',Q,λ_ _=>False,λ_ _=>False⟩ [some c.d,some (.int c.lo),some (.tup (c.lm.map .int)),some (.int c.up),some (.tup (c.um.map .int)),some (.int c.yr),some (.bl b),none] g E:=by
  intro b hb;dsimp[x8,v8];walk_at "w3";refine E6 h1 ?_;have s2:∀b':Bool,b'=((decide (1<=c.up)&&decide (c.up<=99))&&gm 0 c.um)->wpS (a8 T (k+3)) (v8 (v8 (v8 x8.body))) ⟨λ_ g'=>Q .bc g',Q,λ_ _=>False,λ_ _=>False⟩ [some c.d,some (.int c.lo),some (.tup (c.lm.map .int)),some (.int c.up),some (.tup (c.um.map .int)),some (.int c.yr),some (.bl b),some (.bl b')] g E:=by
   intro b' iE;dsimp[x8,v8];have e:j7 c=(b&&(b'&&(decide (0<=c.yr)&&decide (c.yr<=9999)))):=by unfold j7;rw[hb,iE]
   rw[e] at h;walk_at "w3";cases b
   ·exact Y5 h
   ·refine jC ?_;walk_at "w3";cases b'
    ·exact Y5 h
    ·refine jC ?_;walk_at "w3";exact E6 h1 h
  refine vt ?_;cases hc:(decide (1<=c.up)&&decide (c.up<=99)) with
  |false=>exact Y5 (s2 false (by rw[hc];rfl))
  |true =>
   refine jC ?_;walk_at "w1";walk_at "w1";walk_at "w1";walk_at "w1";exact Z9 h1 h2 (s2 _ (by rw[hc];rfl))
 refine vt ?_;cases hc:(decide (1<=c.lo)&&decide (c.lo<=99)) with
 |false=>exact Y5 (s1 false (by rw[hc];rfl))
 |true =>
  refine jC ?_;walk_at "w1";walk_at "w1";walk_at "w1";walk_at "w1";exact Z9 h1 h2 (s1 _ (by rw[hc];rfl))
theorem Ep(h8:T 8=some Q2)(uF:T 13=some L6)(h:∀g',Gr d g g'->(i8 g d->i8 g' d)->Q (.bl (j7 c)) g'):a8 T (k+2) 13 [c.d] g Q E:=by
 refine call_of uF rfl ?_;have no:j7 c=false->Q (.bl false) g:=λe=>by
  have:=h g (Gr.refl _ _) id
  rwa [e] at this
 dsimp[L6,b5,List.replicate,d5.d];walk_at "w3";have fin:j7 c=(gm 0 c.lm&&gm 0 c.um)->wpS (a8 T (k+1)) (v8 L6.body) ⟨λ_ g'=>Q .bc g',Q,λ_ _=>False,λ_ _=>False⟩ [some c.d] g E:=λe=>by
  dsimp[L6,v8,d5.d];walk_at "w3";refine EU h8 (d:=d) λg1 G1 D1=>?_;rw[<- Ed];refine vt ?_;have h':=h;rw[e] at h';cases hl:gm 0 c.lm with
  |false =>
   rw[hl,mL] at h';exact Y5 (h' g1 G1 D1)
  |true =>
   rw[hl,Bool.true_and] at h';refine jC ?_;walk_at "w3";refine EU h8 (d:=d) λg2 G2 D2=>?_;rw[<- Ed];exact h' g2 (G1.trans G2) λz=>D2 (D1 z)
 have out:j7 c=false->wpS (a8 T (k+1)) (.seq (.ret (.lit (.bl false))) .pass) ⟨λgT g1=>wpS (a8 T (k+1)) (v8 L6.body) ⟨λ_ g'=>Q .bc g',Q,λ_ _=>False,λ_ _=>False⟩ gT g1 E,Q,λ_ _=>False,λ_ _=>False⟩ [some c.d] g E:=λe=>by
  walk_at "w3";exact no e
 refine if2 (λc1=>?_) (λc1=>?_)
 ·walk_at "w3";cases c2:decide (c.lo<=99) with
  |false=>exact out (by unfold j7;rw[c2];simp)
  |true =>
   walk_at "w3";refine if2 (λc3=>?_) (λc3=>?_)
   ·walk_at "w3";cases c4:decide (c.up<=99) with
    |false=>exact out (by unfold j7;rw[c4];simp)
    |true =>
     walk_at "w3";refine if2 (λc5=>?_) (λc5=>?_)
     ·walk_at "w3";cases c6:decide (c.yr<=9999) with
      |false=>exact out (by unfold j7;rw[c6];simp)
      |true=>exact fin (by unfold j7;rw[aT c1,c2,aT c3,c4,aT c5,c6];simp)
     ·walk_at "w3";exact no (by unfold j7;rw[aR c5];simp)
   ·walk_at "w3";exact no (by unfold j7;rw[aR c3];simp)
 ·walk_at "w3";exact no (by unfold j7;rw[aR c1];simp)
end
theorem i8.PN{d x:Nat}(h:i8 g d)(hx:d<x):i8 (g.set x o) d:=by
 obtain⟨s,p,b,r,xs,e1,e2,hs,q⟩:=h.ex;exact⟨s,p,b,r,xs,by rw[aN (by omega)];exact e1,by rw[aN (by omega)];exact e2,hs,q⟩
theorem b8:(g++[o])[g.length]?=some o:=by simp
theorem vB(h:g[i]?=some o):(g++[o'])[i]?=some o:=by rw[aG (m7 h)];exact h
theorem get_set(h:g[i]?=some o):(g.set i o')[i]?=some o':=aY (m7 h)
theorem d0{j:Nat}(h:g[i]?=some o)(hn:j≠i):(g.set j o')[i]?=some o:=by rw[aN hn];exact h
def Y1:aJ:=⟨1,5,(.seq (.set 1 (.prim .lst (BL (.prim .tup .nil) (bV .tup (aO 0)) (bC .tup (aO 0) (aO 1)) (bV .tup (aO 1)) (.prim .tup (dD (aO 0) (aO 1) (aO 2))) (.prim .tup (nt (aO 0) (aO 1) (aO 2) (aO 7))) (bV .tup (aO 2))))) (.seq (.set 2 (bh aA (.call 4 (cZ ao (bh (bC .tup (aO 4) (aO 7)) (bV .int (bC (.cmp .Eq) (.call 4 (cZ ao (aO 4))) (aO 0)))))))) (.seq (.set 3 (bh aA (.call 4 (cZ ao (aO 5))))) (.seq (.set 4 (bh (.prim .lst (uH (aO 0) (aO 0) (aO 1400) (aO 1400) (aO 1401) (aO 1))) (.call 4 (cZ ao (aO 6))))) (.seq (.ret (.prim .tup (nr (bC (.bin .Add) (aO 1) (.call 4 (cZ ao (aO 3)))) aM (bC (.bin .Add) (aO 1) (.call 4 (cZ ao (aO 4)))) bf cA))) .pass)))))⟩
structure pI(c:d5):Prop where
 good:j7 c=true
 l8:c.lm.length<=8
 u8:c.um.length<=8
theorem pI.mk'{lo up yr:Int}{lm um:List Int}(h1:1<=lo)(h2:lo<=99)(h3:1<=up)(h4:up<=99)(h5:0<=yr)(h6:yr<=9999)(h7:gm 0 lm=true)(h8:gm 0 um=true)(h9:lm.length<=8)(BK:um.length<=8):pI ⟨lo,lm,up,um,yr⟩:=by
 refine⟨?_,h9,BK⟩;simp only[j7,h7,h8,decide_eq_true h1,decide_eq_true h2,decide_eq_true h3,decide_eq_true h4,decide_eq_true h5,decide_eq_true h6]
 rfl
def M4:List (List Int):=[[],[0],[0,1],[1],[0,1,2],[0,1,2,7],[2]]
theorem MX:∀ms∈M4,gm 0 ms=true/\ms.length<=8:=by decide
theorem Ga{r:Int}(h0:0<=r)(h7:r<7):∃ms,iF (M4.map λms=>D.tup (ms.map .int)) r=some (.tup (ms.map .int))/\gm 0 ms=true/\ms.length<=8:=by
 obtain⟨v,hv,hm⟩:=A4 (l:=M4.map λms=>D.tup (ms.map .int)) h0 (by simpa[M4] using h7);obtain⟨ms,h1,rfl⟩:=aC.mp hm;exact⟨ms,hv,MX ms h1⟩
section
variable{T:Nat->Option aJ}{d:Nat}
theorem VH(h4:T 4=some J9)(xT:T 22=some Y1)(D0:i8 g d)(h:∀c g',pI c->i8 g' d->Gr d g g'->Q c.d g'):a8 T (k+2) 22 [.ref d] g Q E:=by
 refine call_of xT rfl ?_;dsimp[Y1,b5,List.replicate];have dl:=D0.lt;walk_at"";have D1:=D0.snoc (.lst (M4.map λms=>D.tup (ms.map .int)));have G1:=Gr.snoc d g (.lst (M4.map λms=>D.tup (ms.map .int)));have e1:(g++[O.lst (M4.map λms=>D.tup (ms.map .int))])[g.length]?=some (.lst (M4.map λms=>D.tup (ms.map .int))):=b8;show a8 _ _ _ _ (g++[O.lst (M4.map λms=>D.tup (ms.map .int))]) _ _;generalize g++[O.lst (M4.map λms=>D.tup (ms.map .int))]=g1 at *;refine i9 h4 D1 (by decide) (by decide) λr g2 r0 r1 D2 G2=>?_;walk_at"";have e2:=G2.at (by omega) e1;have hn:∃n:Int,iF [D.int 4,D.int 7] (if decide (r=0)=true then 1 else 0)=some (.int n)/\0<n/\n<=7:=by
  by_cases hr:r=0
  ·exact⟨7,by rw[aT hr];rfl,by decide,by decide⟩
  ·exact⟨4,by rw[aR hr];rfl,by decide,by decide⟩
 obtain⟨n,en,n0,n7⟩:=hn;refine nW en ?_;walk_at"";refine i9 h4 D2 n0 (by omega) λr3 g3 Hz YR D3 G3=>?_;have e3:=G3.at (by omega) e2;obtain⟨lm,el,gl,ll⟩:=Ga Hz (by omega);refine E2 (b0 e3) el ?_;walk_at"";refine i9 h4 D3 (by decide) (by decide) λr4 g4 Hy YQ D4 G4=>?_;have e4:=G4.at (by omega) e3;obtain⟨um,eu,gu,lu⟩:=Ga Hy (by omega);refine E2 (b0 e4) eu ?_;walk_at"";have e5:(g4++[O.lst [.int 0,.int 0,.int 1400,.int 1400,.int 1401,.int 1]])[g4.length]?=some (.lst [.int 0,.int 0,.int 1400,.int 1400,.int 1401,.int 1]):=b8;refine i9 h4 (D4.snoc _) (by decide) (by decide) λr5 g5 Hx Hw D5 G5=>?_;have e6:=G5.at (by have:=D4.lt;omega) e5;obtain⟨v,hv,hm⟩:=A4 (l:=[D.int 0,.int 0,.int 1400,.int 1400,.int 1401,.int 1]) Hx (by simpa using Hw);have hy:∃y:Int,v=.int y/\0<=y/\y<=9999:=by
  simp only[List.mem_cons,List.mem_nil_iff,or_false] at hm;rcases hm with rfl|rfl|rfl|rfl|rfl|rfl<;>exact⟨_,rfl,by decide,by decide⟩
 obtain⟨y,rfl,y0,y1⟩:=hy;refine E2 (b0 e6) hv ?_;walk_at"";refine i9 h4 D5 (by decide) (by decide) λr6 g6 YO YN D6 G6=>?_;walk_at"";refine i9 h4 D6 (by decide) (by decide) λr7 g7 YL YK D7 G7=>?_;walk_at"";exact h ⟨1+r6,lm,1+r7,um,y⟩ _ (pI.mk' (by omega) (by omega) (by omega) (by omega) y0 y1 gl gu ll lu) D7 (G1.trans (G2.trans (G3.trans (G4.trans ((Gr.snoc _ _ _).trans (G5.trans (G6.trans G7)))))))
end
def Wz:aJ:=⟨1,1,(.seq (.ifs (.cG (.dE (.call 1 (dD ao (aO 1) (aO 9))))) (.seq (.raise "BadAnvils" (cq (bT "there are from one to nine anvils"))) .pass) .pass) .pass)⟩
def zI:aJ:=⟨2,2,(.seq (.ifs (cw .Eq (.call 4 (cZ ao (aO 12))) (aO 7)) (.seq (.ret (.call 5 (cq ao))) .pass) .pass) (.seq (.ret (bC (.bin .Sub) (.call 4 (cZ ao (bC (.bin .Add) aA (aO 4)))) (aO 2))) .pass))⟩
def MW:aJ:=⟨2,2,(.seq (.ret (bV .all (.comp [1] 3 (.one 2) (.eL ao) .no (bC (.cmp .In) aM ao)))) .pass)⟩
def O4:aJ:=⟨1,1,(.seq (.ifs (.cG (.dE (.call 12 (cq ao)))) (.seq (.raise "BadCoin" (cq (bT "it is no coin"))) .pass) .pass) .pass)⟩
def ET:aJ:=⟨1,2,(.seq (.ifs (cw .Gt (bV .len ao) (aO 9)) (.seq (.raise "TooMany" (cq (bT "at most nine coins are asked about at once"))) .pass) .pass) (.seq (.eA (.one 1) (.eL ao) (.seq (.expr (.call 39 (cq aA))) .pass)) .pass))⟩
def EA:aJ:=⟨1,1,(.seq (.ifs (cw .NotIn ao (.lit (.tup [(.str "lower"),(.str "upper")]))) (.seq (.raise "BadSide" (cq (bT "a side is lower or upper"))) .pass) .pass) .pass)⟩
def Ea:aJ:=⟨1,1,(.seq (.expr (.call 40 (cq ao))) (.seq (.ret (bC .nc (.lit (.tup [(.tup [(.str "lower"),(.int 0)]),(.tup [(.str "upper"),(.int 2)])])) ao)) .pass))⟩
noncomputable abbrev Ys(T:Nat->Option aJ):Prop:=T 18=some ET/\T 39=some O4
noncomputable abbrev Yr(T:Nat->Option aJ):Prop:=T 19=some Ea/\T 40=some EA
structure Ex(g g':G):Prop where
 len:g.length<=g'.length
 old:∀i,i<g.length->g'[i]?=g[i]?
theorem Ex.refl(g:G):Ex g g:=⟨aj _,λ_ _=>rfl⟩
theorem Ex.trans{g g1 g2:G}(a:Ex g g1)(b:Ex g1 g2):Ex g g2:=⟨aI a.len b.len,λi h=>(b.old i (ak h a.len)).trans (a.old i h)⟩
theorem Ex.snoc(g:G)(o:O):Ex g (g++[o]):=⟨by simp,λi h=>aG h⟩
theorem Ex.at(h:Ex g g')(e:g[i]?=some o):g'[i]?=some o:=(h.old i (m7 e)).trans e
theorem Ex.gr(h:Ex g g')(d:Nat):Gr d g g':=⟨h.len,λi _ h2=>h.old i h2⟩
theorem Ex.draw{d:Nat}(h:Ex g g')(D0:i8 g d):i8 g' d:=by
 obtain⟨s,p,b,r,xs,e1,e2,q⟩:=D0.ex;exact⟨s,p,b,r,xs,h.at e1,h.at e2,q⟩
inductive k8(g:G):Nat->D->D->Prop
 |bc {n:Nat}:k8 g n .bc .bc
 |bl {n:Nat} (b:Bool):k8 g n (.bl b) (.bl b)
 |int {n:Nat} (i:Int):k8 g n (.int i) (.int i)
 |str {n:Nat} (x:Str):k8 g n (.str x) (.str x)
 |tup {n:Nat} {l m:List D} (hl:l.length=m.length) (h:∀(i:Nat) x y,l[i]?=some x->m[i]?=some y->k8 g n x y) (hz:m.length<=1000):k8 g (n+1) (.tup l) (.tup m)
 |lst {n a b:Nat} {l m:List D} (ha:g[a]?=some (.lst l)) (hb:g[b]?=some (.lst m)) (hl:l.length=m.length) (h:∀(i:Nat) x y,l[i]?=some x->m[i]?=some y->k8 g n x y) (hz:m.length<=1000):k8 g (n+1) (.ref a) (.ref b)
theorem k8.ex(e:Ex g g'){x:D}(h:k8 g n x y):k8 g' n x y:=by
 induction h with
 |bc=>exact .bc
 |bl b=>exact .bl b
 |int i=>exact .int i
 |str x=>exact .str x
 |tup hl h hz ih=>exact .tup hl ih hz
 |lst ha hb hl h hz ih=>exact .lst (e.at ha) (e.at hb) hl ih hz
section
variable{T:Nat->Option aJ}
theorem Fp(h6:T 6=some tS){i:Int}(h:Q (.bl true) g):a8 T (k+1) 6 [.int i] g Q E:=by
 refine call_of h6 rfl ?_;dsimp[tS,b5,List.replicate];walk_at"";refine fL (c:="int") (b:=true) (by decide) rfl ?_;walk_at"";refine fL (c:="bool") (b:=false) (by decide) rfl ?_;walk_at"";exact h
def FV:MS:=match A2.body with
 |.seq _ (.seq _ (.seq _ (.seq _ (.seq _ b))))=>b
 |x=>x
theorem J1(h6:T 6=some tS)(h7:T 7=some A2):∀(n:Nat) {k:Nat} {g:G} {x y:D} {Q:KD} {E:KX},k8 g n x y->(∀g',Ex g g'->Q (.bl true) g')->a8 T (k+n+2) 7 [x,y] g Q E:=by
 have qN:∀(n:Nat),(∀{k:Nat} {g:G} {x y:D} {Q:KD} {E:KX},k8 g n x y->(∀g',Ex g g'->Q (.bl true) g')->a8 T (k+n+2) 7 [x,y] g Q E) ->
   ∀{k:Nat} {g:G} {x y:D} {l m:List D} {Q:KD} {E:KX},(∀g',Ex g g'->B0 g' x=some l)->(∀g',Ex g g'->B0 g' y=some m)->l.length=m.length->m.length<=1000->(∀(i:Nat) x y,l[i]?=some x->m[i]?=some y->k8 g n x y)->(∀g',Ex g g'->Q (.bl true) g') ->
   wpS (a8 T (k+n+2)) FV ⟨λ_ g'=>Q .bc g',Q,λ_ _=>False,λ_ _=>False⟩ [some x,some y] g E:=by
  intro n ih k g x y l m Q E hx hy hl hz hs hQ;have len:∀(z:D) (l:List D) (g':G) (Q':KD),B0 g' z=some l->Q' (.int l.length) g'->cI .len [z] g' Q':=λz l g' Q' e q=>⟨_,_,⟨rfl,.inl ⟨z,l,rfl,e,rfl⟩⟩,q⟩
  dsimp[FV,A2];refine Dn (Dm (Dq (qj (vQ (w_var rfl (len _ _ _ _ (hx g (Ex.refl g)) ?_))))));refine vQ (w_var rfl (len _ _ _ _ (hy g (Ex.refl g)) ?_));refine CJ ?_;rw[hl,aT rfl];walk_at"";refine tM (b9 T _) (Am (b9 T _) ?_);refine vQ (w_var rfl (len _ _ _ _ (hy g (Ex.refl g)) ?_));refine⟨_,rfl,by omega,by omega,w6 0 m.length,λi ys Z g'=>∃z w,ys=List.replicate i (.bl true)/\Z=[some y,some x,z,w]/\Ex g g',by rw[vH];exact hz,λi ys Z g' p=>⟨V2,?_⟩,⟨none,none,rfl,rfl,Ex.refl g⟩,λi z ys Z g' hz p=>?_,λys Z g' p=>?_⟩
  ·obtain⟨z,w,rfl,_⟩:=p;simp
  ·obtain⟨z,w,rfl,rfl,e⟩:=p;obtain⟨hi,rfl⟩:=vG hz;have h1:l[i]?=some l[i]:=az (by omega);have h2:m[i]?=some m[i]:=az hi;have a1:iF l (0+(i:Int))=some l[i]:=by rw[Int.zero_add];exact vq h1
   have a2:iF m (0+(i:Int))=some m[i]:=by rw[Int.zero_add];exact vq h2
   show dq _ _ _ _ _ _;refine R8 (jC (FI (tN (qj (w_var rfl (w_var rfl ⟨_,_,⟨rfl,.inl ⟨_,l,_,rfl,hx g' e,a1⟩⟩,?_⟩))))));refine tN (qj (w_var rfl (w_var rfl ⟨_,_,⟨rfl,.inl ⟨_,m,_,rfl,hy g' e,a2⟩⟩,?_⟩)));refine zQ (ih ((hs i _ _ h1 h2).ex e) λg2 e2=>?_);exact⟨_,_,by rw[List.replicate_succ'],rfl,e.trans e2⟩
  ·obtain⟨z,w,rfl,rfl,e⟩:=p;refine Cz (b0 b8) (v:=true) ?_ (hQ _ (e.trans (Ex.snoc _ _)));have:List.replicate (w6 0 m.length).length (D.bl true)=(List.replicate (w6 0 m.length).length true).map D.bl:=by simp
   rw[this,DI];simp
 intro n
 induction n with
 |zero =>
  intro k g x y Q E h hQ;have h0:=hQ g (Ex.refl g);cases h with
  |bc =>
   refine call_of h7 rfl ?_;dsimp[A2,b5,List.replicate];walk_at"";exact h0
  |bl b=>exact FW h7 (by simpa using h0)
  |int i =>
   refine call_of h7 rfl ?_;dsimp[A2,b5,List.replicate];walk_at""
   try show wpS _ _ _ _ _ _
   walk_at"";refine fL (c:="bool") (b:=false) (by decide) rfl ?_;walk_at"";refine fL (c:="int") (b:=true) (by decide) rfl ?_;walk_at"";refine Fp h6 ?_;walk_at"";simpa using h0
  |str x =>
   refine call_of h7 rfl ?_;dsimp[A2,b5,List.replicate];walk_at""
   try show wpS _ _ _ _ _ _
   walk_at"";refine fL (c:="bool") (b:=false) (by decide) rfl ?_;walk_at"";refine fL (c:="int") (b:=false) (by decide) rfl ?_;walk_at"";refine fL (c:="str") (b:=true) (by decide) rfl ?_;walk_at"";refine fL (c:="str") (b:=true) (by decide) rfl ?_;walk_at"";simpa using h0
 |succ n ih =>
  intro k g x y Q E h hQ;have h0:=hQ g (Ex.refl g);cases h with
  |bc =>
   refine call_of h7 rfl ?_;dsimp[A2,b5,List.replicate];walk_at"";exact h0
  |bl b=>exact FW h7 (by simpa using h0)
  |int i =>
   refine call_of h7 rfl ?_;dsimp[A2,b5,List.replicate];walk_at""
   try show wpS _ _ _ _ _ _
   walk_at"";refine fL (c:="bool") (b:=false) (by decide) rfl ?_;walk_at"";refine fL (c:="int") (b:=true) (by decide) rfl ?_;walk_at"";refine Fp h6 ?_;walk_at"";simpa using h0
  |str x =>
   refine call_of h7 rfl ?_;dsimp[A2,b5,List.replicate];walk_at""
   try show wpS _ _ _ _ _ _
   walk_at"";refine fL (c:="bool") (b:=false) (by decide) rfl ?_;walk_at"";refine fL (c:="int") (b:=false) (by decide) rfl ?_;walk_at"";refine fL (c:="str") (b:=true) (by decide) rfl ?_;walk_at"";refine fL (c:="str") (b:=true) (by decide) rfl ?_;walk_at"";simpa using h0
  |@tup _ l m hl hs hz =>
   refine call_of h7 rfl ?_;have body:=qN n ih (k:=k) (x:=.tup l) (y:=.tup m) (E:=E) (λ_ _=>rfl) (λ_ _=>rfl) hl hz hs hQ;dsimp[A2,b5,List.replicate];walk_at""
   try show wpS _ _ _ _ _ _
   walk_at"";refine fL (c:="bool") (b:=false) (by decide) rfl ?_;walk_at"";refine fL (c:="int") (b:=false) (by decide) rfl ?_;walk_at"";refine fL (c:="str") (b:=false) (by decide) rfl ?_;walk_at"";refine fL (c:="tuple") (b:=true) (by decide) rfl ?_;walk_at"";refine fL (c:="tuple") (b:=true) (by decide) rfl ?_;walk_at"";refine iV rfl ?_;walk_at"";refine fL (c:="list") (b:=false) (by decide) rfl ?_;walk_at"";refine fL (c:="list") (b:=false) (by decide) rfl ?_;walk_at"";refine iV rfl (yD ?_);exact body
  |@lst _ a b l m ha hb hl hs hz =>
   refine call_of h7 rfl ?_;have body:=qN n ih (k:=k) (x:=.ref a) (y:=.ref b) (E:=E) (λg' e=>b0 (e.at ha)) (λg' e=>b0 (e.at hb)) hl hz hs hQ;have ta:∀c,pv g (.ref a) c=some (c=="list"):=λc=>by simp only[pv,ha]
   have tb:∀c,pv g (.ref b) c=some (c=="list"):=λc=>by simp only[pv,hb]
   dsimp[A2,b5,List.replicate];walk_at""
   try show wpS _ _ _ _ _ _
   walk_at"";refine fL (c:="bool") (b:=false) (by decide) (tb _) ?_;walk_at"";refine fL (c:="int") (b:=false) (by decide) (tb _) ?_;walk_at"";refine fL (c:="str") (b:=false) (by decide) (tb _) ?_;walk_at"";refine fL (c:="tuple") (b:=false) (by decide) (tb _) ?_;walk_at"";refine fL (c:="tuple") (b:=false) (by decide) (ta _) ?_;walk_at"";refine iV rfl ?_;walk_at"";refine fL (c:="list") (b:=true) (by decide) (tb _) ?_;walk_at"";refine fL (c:="list") (b:=true) (by decide) (ta _) ?_;walk_at"";refine iV rfl (yD ?_);exact body
end
theorem Ex.Cn(h:Gr g.length g g'):Ex g g':=⟨h.len,λi hi=>h.old i (by omega) hi⟩
def CB(c:d5):Prop:=c.lm.length<=8/\c.um.length<=8
section
variable{T:Nat->Option aJ}{d:Nat}
theorem SJ(h4:T 4=some J9)(h5:T 5=some pA)(yf:T 14=some S6)(hB:CB c)(D0:i8 g d)(h:∀(c':d5) g',CB c'->i8 g' d->Gr d g g'->Q c'.d g'):a8 T (k+3) 14 [.ref d,c.d] g Q E:=by
 refine call_of yf rfl ?_;dsimp[S6,b5,List.replicate,d5.d];walk_at"";refine i9 h4 D0 (by decide) (by decide) λway g1 _ _ D1 G1=>?_;walk_at"";refine i9 h4 (D1.snoc _) (by decide) (by decide) λr g2 r0 r1 D2 G2=>?_;have e2:=G2.at (i:=g1.length) (by have:=D1.lt;omega) (o:=.lst ([[1,0],[3,3],[8],[-1,2],[0,9],[7,10 ^ 20]].map λl=>D.tup (l.map D.int))) (by simp);obtain⟨v,hv,hm⟩:=A4 (l:=[[1,0],[3,3],[8],[-1,2],[0,9],[7,10 ^ 20]].map λl=>D.tup (l.map D.int)) r0 (by simpa using r1);obtain⟨odd,ho,rfl⟩:=aC.mp hm;have rF:odd.length<=8:=by
  simp only[List.mem_cons,List.mem_nil_iff,or_false] at ho;rcases ho with rfl|rfl|rfl|rfl|rfl|rfl<;>decide
 refine E2 (b0 e2) hv ?_;walk_at"";refine zW h4 h5 D2 λf g3 D3 G3=>?_;walk_at"";refine i9 h4 (D3.snoc _) (by decide) (by decide) λr' g4 HB HA D4 G4=>?_;have e4:=G4.at (i:=g3.length) (by have:=D3.lt;omega) (o:=.lst ([0,100,-1,f].map D.int)) (by simp);obtain⟨v',rq,oN⟩:=A4 (l:=[0,100,-1,f].map D.int) HB (by simpa using HA);obtain⟨num,_,rfl⟩:=aC.mp oN;refine E2 (b0 e4) rq ?_;have G:Gr d g g4:=G1.trans ((Gr.snoc _ _ _).trans (G2.trans (G3.trans ((Gr.snoc _ _ _).trans G4))));walk_at"";refine if2 (λ_=>?_) (λ_=>?_)
 ·walk_at"";exact h ⟨num,c.lm,c.up,c.um,c.yr⟩ g4 hB D4 G
 walk_at"";refine if2 (λ_=>?_) (λ_=>?_)
 ·walk_at"";exact h ⟨c.lo,odd,c.up,c.um,c.yr⟩ g4 ⟨rF,hB.2⟩ D4 G
 walk_at"";refine if2 (λ_=>?_) (λ_=>?_)
 ·walk_at"";exact h ⟨c.lo,c.lm,num,c.um,c.yr⟩ g4 hB D4 G
 walk_at"";refine if2 (λ_=>?_) (λ_=>?_)
 ·walk_at"";exact h ⟨c.lo,c.lm,c.up,odd,c.yr⟩ g4 ⟨hB.1,rF⟩ D4 G
 walk_at"";refine if2 (λ_=>?_) (λ_=>?_)
 ·walk_at"";refine zW h4 h5 D4 λf' g5 D5 G5=>?_;walk_at"";refine i9 h4 (D5.snoc _) (by decide) (by decide) λYS g6 wB wA D6 G6=>?_;have e6:=G6.at (i:=g5.length) (by have:=D5.lt;omega) (o:=.lst ([-1,10000,9999,f'].map D.int)) (by simp);obtain⟨YH,xa,xo⟩:=A4 (l:=[-1,10000,9999,f'].map D.int) wB (by simpa using wA);obtain⟨wD,_,rfl⟩:=aC.mp xo;refine E2 (b0 e6) xa ?_;walk_at"";exact h ⟨c.lo,c.lm,c.up,c.um,wD⟩ g6 hB D6 (G.trans (G5.trans ((Gr.snoc _ _ _).trans G6)))
 walk_at"";exact h c g4 hB D4 G
end
theorem Ue{l:List D}(ha:g[a]?=some (.lst l))(hb:g[b]?=some (.lst l))(h:∀x∈l,(∃i,x=.int i)\/∃y,x=.str y)(hz:l.length<=1000):k8 g 1 (.ref a) (.ref b):=by
 refine .lst ha hb rfl (λi x y hx hy=>?_) hz;rw[hx] at hy;cases hy;rcases h x (bH hx) with⟨j,rfl⟩|⟨y,rfl⟩
 ·exact .int _
 ·exact .str _
def c7(l:List Nat):List D:=l.map λ(i:Nat)=>D.int i
def VW:aJ:=⟨2,2,(.seq (.ifs (.cG (.dE (.call 1 (dD aA (aO 0) (bC (.bin .Sub) (bV .len ao) (aO 1)))))) (.seq (.raise "NoPlace" (cq (bT "no coin has that place"))) .pass) .pass) .pass)⟩
def Ec:aJ:=⟨3,4,(.seq (.ifs (.cG (.dE (.call 38 (cq aM)))) (.seq (.ret (.prim .lst .nil)) .pass) .pass) (.seq (.ifs (cw .Eq aA (bT "coin")) (.seq (.ret (.comp [2] 3 (.one 2) (.fq (bV .len ao)) (cw .Eq aM ao) aM)) .pass) .pass) (.seq (.set 3 (.call 19 (cq aA))) (.seq (.ret (.comp [3,2] 5 (.many [3,4]) (.kS ao) (cw .Eq (bh cA ao) aA) bf)) .pass))))⟩
def FX:aJ:=⟨2,3,(.seq (.expr (.call 18 (cq ao))) (.seq (.set 2 (.call 19 (cq aA))) (.seq (.ret (.gG [2] 3 (.one 2) (.eL ao) .no (bh aM ao))) .pass)))⟩
def Uh:aJ:=⟨2,5,(.seq (.kM (.many [2,3,4]) aA) (.seq (.ifs (.gp (cw .NotIn aM (.lit (.tup [(.str "coin"),(.str "lower"),(.str "upper")]))) (cw .Eq bf cA)) (.seq (.ret (.lit (.bl false))) .pass) .pass) (.seq (.ret (.de (bC (.cmp .NotEq) (.call 74 (dD ao aM bf)) (.prim .lst .nil)) (bC (.cmp .NotEq) (.call 74 (dD ao aM cA)) (.prim .lst .nil)))) .pass)))⟩
def VX:aJ:=⟨2,4,(.seq (.eA (.many [2,3]) (.kS aA) (.seq (.ifs (.cG (.dE (.call 88 (cZ ao bf)))) (.seq (.raise "BadRule" (cq (.prim .lS (dD (bT "rule ") (bV .fv aM) (bT " is none for these coins"))))) .pass) .pass) .pass)) .pass)⟩
def Xe:aJ:=⟨1,1,(.seq (.ret (bV .sum (.comp [] 2 (.one 1) (.eL ao) .no (bC (.bin .LShift) (aO 1) aA)))) .pass)⟩
def Uj:aJ:=⟨2,2,(.seq (.ret (bC (.bin .BitOr) ao (bC (.bin .LShift) (aO 1) aA))) .pass)⟩
def Ui:aJ:=⟨2,4,(.seq (.eA (.one 2) (.eL (.lit (.tup [(.str "lower"),(.str "upper")]))) (.seq (.set 3 (.call 19 (cq aM))) (.seq (.ifs (.de (cw .Eq (bh ao bf) (bh aA bf)) (.cG (.dE (.call 15 (cZ (bh ao (bC (.bin .Add) bf (aO 1))) (bh aA (bC (.bin .Add) bf (aO 1)))))))) (.seq (.ret (.lit (.bl true))) .pass) .pass) .pass))) (.seq (.ret (.lit (.bl false))) .pass))⟩
def Km:aJ:=⟨2,2,(.seq (.ret (.chain .Lt .Lt (aO 0) (bh aA (aO 4)) (bh ao (aO 4)))) .pass)⟩
def Wb:aJ:=⟨1,1,(.seq (.ret (.comp [0] 3 (.one 2) (.eL ao) .no (.call 90 (cq (.comp [2] 4 (.many [2,3]) (.kS ao) (.dE (.call 92 (cZ bf ao))) aM))))) .pass)⟩
def WA:aJ:=⟨1,1,(.seq (.ret (.comp [0] 3 (.one 2) (.eL ao) .no (.call 90 (cq (.comp [2] 4 (.many [2,3]) (.kS ao) (.dE (.call 93 (cZ bf ao))) aM))))) .pass)⟩
def Vf:aJ:=⟨1,1,(.seq (.ret (.comp [0] 3 (.one 2) (.eL (.call 20 (cZ ao (bT "lower")))) .no (.call 90 (cq (.call 74 (dD ao (bT "lower") aM)))))) .pass)⟩
def SU:aJ:=⟨2,8,(.seq (.set 2 (.comp [] 2 (.one 1) (.eL ao) .no (.prim .lst .nil))) (.seq (.eA (.many [3,4,5]) (.eL aA) (.seq (.set 6 (.call 90 (cq (.call 74 (dD ao bf cA))))) (.seq (.eA (.one 7) (.eL (.call 74 (dD ao bf dY))) (.seq (.ifs (cw .NotIn eV (bh aM gB)) (.seq (.expr (.dQ .append (bh aM gB) (cq eV))) .pass) .pass) .pass)) .pass))) (.seq (.ret aM) .pass)))⟩
def VU:aJ:=⟨3,3,(.seq (.expr (.call 18 (cq ao))) (.seq (.expr (.call 42 (cq aA))) (.seq (.expr (.call 89 (cZ ao aM))) .pass)))⟩
def Ug:aJ:=⟨3,3,(.seq (.expr (.call 98 (dD ao aA aM))) (.seq (.ret (.make "Bounds" 113 (dD ao aA aM))) .pass))⟩
def Vg:aJ:=⟨3,5,(.seq (.set 3 (.call 91 (cZ aA aM))) (.seq (.set 4 (bC (.bin .Sub) (bV (.fld "full") ao) aA)) (.seq (.ret (bV .len (.comp [4,3] 4 (.one 3) (.eL (bV (.fld "lower_dies") ao)) (.de (.dE (bC (.bin .BitAnd) bf aA)) (.dE (bC (.bin .BitAnd) bf ao))) bf))) .pass)))⟩
def Vi:aJ:=⟨3,3,(.seq (.ifs (.dE (bC (.bin .BitAnd) aA (bh (bV (.fld "worn_by_place") ao) aM))) (.seq (.ret (bT "wear")) .pass) .pass) (.seq (.ifs (.dE (bC (.bin .BitAnd) aA (bh (bV (.fld "later_by_place") ao) aM))) (.seq (.ret (bT "year")) .pass) .pass) (.seq (.ifs (cw .Gt (.call 100 (dD ao aA aM)) (bV (.fld "room") ao)) (.seq (.ret (bT "anvil")) .pass) .pass) (.seq (.ifs (.cG (.dE (bV .all (.comp [1] 3 (.one 2) (.eL (bh (bV (.fld "needed_by_place") ao) aM)) .no (bC (.bin .BitAnd) ao aM))))) (.seq (.ret (bT "rule")) .pass) .pass) (.seq (.ret (.lit .bc)) .pass)))))⟩
def VT:aJ:=⟨4,4,(.seq (.fC "size" ["Bounds"] ao (bV .len aA)) (.seq (.fC "full" ["Bounds"] ao (bC (.bin .Sub) (bC (.bin .LShift) (aO 1) (bV .len aA)) (aO 1))) (.seq (.fC "room" ["Bounds"] ao aM) (.seq (.fC "worn_by_place" ["Bounds"] ao (.call 94 (cq aA))) (.seq (.fC "later_by_place" ["Bounds"] ao (.call 95 (cq aA))) (.seq (.fC "lower_dies" ["Bounds"] ao (.call 96 (cq aA))) (.seq (.fC "needed_by_place" ["Bounds"] ao (.call 97 (cZ aA bf))) .pass)))))))⟩
section
variable{Z:S}
theorem OU(hP:i6 P){l:List D}{o:ME}(hl:b7 g a=some l)(h:∀Q:KD,Q (.ref a) g->aP P o Z g Q E):∀R:IK->G->Prop,R (.lst a) g->hX P (.eL o) Z g R E:=λR r=>oG hP (h _ ⟨a,l,rfl,hl,r⟩)
end
def EC:aJ:=⟨3,3,(.seq (.ret (bC (.bin .Add) (bC (.bin .Add) (bC (.lx false true) ao aA) (bV .tup aM)) (bC (.lx true false) ao (bC (.bin .Add) aA (aO 1))))) .pass)⟩
def DZ:aJ:=⟨3,3,(.seq (.ifs (.cG (.dE (.call 74 (dD ao aA aM)))) (.seq (.raise "NoDie" (cq (bT "no coin is of that die"))) .pass) .pass) .pass)⟩
def EB:aJ:=⟨1,2,(.seq (.set 1 (aO 1)) (.seq (.iO (cw .In aA ao) (.seq (.jx 1 .iadd (aO 1)) .pass)) (.seq (.ret aA) .pass)))⟩
def Q3:aJ:=⟨1,1,(.seq (.fC "held" ["Cabinet"] ao (.prim .N7 .nil)) (.seq (.fC "claims" ["Cabinet"] ao (.prim .N7 .nil)) (.seq (.fC "last_coin" ["Cabinet"] ao (aO 0)) (.seq (.fC "last_fact" ["Cabinet"] ao (aO 0)) .pass))))⟩
def u4:aJ:=⟨2,2,(.seq (.ifs (.gp (.cG (.dE (.call 38 (cq aA)))) (cw .NotIn aA (bV (.fld "held") ao))) (.seq (.raise "NoCoin" (cq (bT "no coin has that number"))) .pass) .pass) .pass)⟩
def N9:aJ:=⟨3,3,(.seq (.expr (.bq "check_number" [("Cabinet",209)] ao (cq aA))) (.seq (.expr (.bq "check_number" [("Cabinet",209)] ao (cq aM))) (.seq (.ifs (cw .Eq aA aM) (.seq (.raise "SameOne" (cq (bT "two unlike coins are asked for"))) .pass) .pass) .pass)))⟩
def N8:aJ:=⟨3,4,(.seq (.set 3 (.call 19 (cq aA))) (.seq (.ret (.comp [2,3,0] 5 (.one 4) (.eL (.bq "numbers" [("Cabinet",221)] ao .nil)) (cw .Eq (bh (bh (bV (.fld "held") aM) cA) aA) ao) cA)) .pass))⟩
def S5:aJ:=⟨4,6,(.seq (.set 4 (.call 19 (cq aA))) (.seq (.eA (.one 5) (.eL aM) (.seq (.cF (bV (.fld "held") ao) dY (.call 177 (dD (bh (bV (.fld "held") ao) dY) cA bf))) .pass)) .pass))⟩
def F7:aJ:=⟨2,2,(.seq (.expr (.call 39 (cq aA))) (.seq (.ifs (cw .Eq (bV .len (bV (.fld "held") ao)) (aO 9)) (.seq (.raise "Full" (cq (bT "there is no room for one more coin"))) .pass) .pass) (.seq (.jy "last_coin" ["Cabinet"] ao (aO 1)) (.seq (.cF (bV (.fld "held") ao) (bV (.fld "last_coin") ao) aA) (.seq (.ret (bV (.fld "last_coin") ao)) .pass)))))⟩
def N4:aJ:=⟨3,4,(.seq (.set 3 (.bq "coin" [("Cabinet",222)] ao (cq aA))) (.seq (.expr (.call 39 (cq aM))) (.seq (.cF (bV (.fld "held") ao) aA aM) (.seq (.ret bf) .pass))))⟩
def Fd:aJ:=⟨3,3,(.seq (.expr (.bq "check_pair" [("Cabinet",210)] ao (cZ aA aM))) (.seq (.jy "last_fact" ["Cabinet"] ao (aO 1)) (.seq (.cF (bV (.fld "claims") ao) (bV (.fld "last_fact") ao) (bC .tup aA aM)) (.seq (.ret (bV (.fld "last_fact") ao)) .pass))))⟩
def V1:aJ:=⟨4,5,(.seq (.expr (.call 40 (cq aA))) (.seq (.expr (.call 75 (dD (.bq "coins" [("Cabinet",223)] ao .nil) aA aM))) (.seq (.expr (.call 75 (dD (.bq "coins" [("Cabinet",223)] ao .nil) aA bf))) (.seq (.ifs (cw .Eq aM bf) (.seq (.raise "SameOne" (cq (bT "two unlike dies are asked for"))) .pass) .pass) (.seq (.set 4 (.bq "numbers_of" [("Cabinet",211)] ao (cZ aA bf))) (.seq (.expr (.bq "give_die" [("Cabinet",212)] ao (dD aA cA aM))) (.seq (.ret cA) .pass)))))))⟩
def S1:aJ:=⟨4,7,(.seq (.expr (.call 40 (cq aA))) (.seq (.expr (.call 75 (dD (.bq "coins" [("Cabinet",223)] ao .nil) aA aM))) (.seq (.set 4 (.bq "numbers_of" [("Cabinet",211)] ao (cZ aA aM))) (.seq (.eA (.one 5) (.eL bf) (.seq (.ifs (.gp (.cG (.dE (.call 38 (cq dY)))) (cw .NotIn dY cA)) (.seq (.raise "NoCoin" (cq (bT "no coin of that die has that number"))) .pass) .pass) .pass)) (.seq (.ifs (.gp (cw .NotEq (bV .U0 bf) (bV .len bf)) (cw .In (bV .len bf) (bC .tup (aO 0) (bV .len cA)))) (.seq (.raise "BadList" (cq (bT "some coins of the die are asked for, each once, not all of them"))) .pass) .pass) (.seq (.set 6 (.call 194 (cq (.call 20 (cZ (.bq "coins" [("Cabinet",223)] ao .nil) aA))))) (.seq (.expr (.bq "give_die" [("Cabinet",212)] ao (dD aA bf eV))) (.seq (.ret eV) .pass))))))))⟩
def K3:aJ:=⟨1,1,(.seq (.ret (bV .eK (bV (.fld "held") ao))) .pass)⟩
def K5:aJ:=⟨2,2,(.seq (.expr (.bq "check_number" [("Cabinet",209)] ao (cq aA))) (.seq (.ret (bh (bV (.fld "held") ao) aA)) .pass))⟩
def N6:aJ:=⟨1,1,(.seq (.ret (.comp [0] 3 (.one 2) (.eL (.bq "numbers" [("Cabinet",221)] ao .nil)) .no (bh (bV (.fld "held") ao) aM))) .pass)⟩
def N5:aJ:=⟨1,1,(.seq (.ret (.comp [0] 3 (.one 2) (.eL (bV .eK (bV (.fld "claims") ao))) .no (.prim .tup (dD aM (bh (bh (bV (.fld "claims") ao) aM) (aO 0)) (bh (bh (bV (.fld "claims") ao) aM) (aO 1)))))) .pass)⟩
noncomputable abbrev Hs:=List (Nat×d5)
noncomputable abbrev Fs:=List (Nat×Int×Int)
noncomputable abbrev kN(j:Nat):Key:=.inl (j:Int)
def fM(hs:Hs):List (Key×D):=hs.map λp=>(kN p.1,p.2.d)
def jv(fs:Fs):List (Key×D):=fs.map λp=>(kN p.1,.tup [.int p.2.1,.int p.2.2])
def nums{α:Type}(hs:List (Nat×α)):List Nat:=hs.map (·.1)
def E5(hs:Hs):List d5:=hs.map (·.2)
def gU(l:List Nat):Prop:=l.Pairwise (· < ·)
theorem L5(hs:List (Nat×α)):(nums hs).length=hs.length:=by simp[nums]
theorem WW(hs:Hs):(fM hs).map (·.1)=((nums hs).map λn:Nat=>(n:Int)).map Sum.inl:=by simp[fM,nums,kN]
theorem WS(fs:Fs):(jv fs).map (·.1)=((nums fs).map λn:Nat=>(n:Int)).map Sum.inl:=by simp[jv,nums,kN]
theorem n8{α:Type}{f:α->D}:∀{hs:List (Nat×α)} {n:Nat} {c:α},gU (nums hs)->(n,c)∈hs->E0 (hs.map λp=>(kN p.1,f p.2)) (kN n)=some (f c)
 |[],_,_,_,h=>by cases h
 |(m,e)::r,n,c,inc,h=>by
  have rj:=cC.mp inc;unfold E0;rw[ba,gQ];by_cases hm:m=n
  ·subst hm;have:c=e:=by
    rcases aw.mp h with z|z
    ·exact(vW z).2
    ·have:=rj.1 m (aC.mpr ⟨_,z,rfl⟩);exact absurd this (aX m)
   subst this;simp
  ·have h':(n,c)∈r:=(aw.mp h).resolve_left λz=>hm (vW z).1.symm;have eR:decide (kN m=kN n)=false:=aR λz=>hm (by have:(m:Int)=n:=fc z;omega);simp only[eR];exact n8 rj.2 h'
theorem Mj{f:α->D}(hs:List (Nat×α))(v:Int):(E0 (hs.map λp=>(kN p.1,f p.2)) (.inl v)).isSome=(nums hs).any λn=>decide ((n:Int)=v):=by
 unfold E0;rw[fW,bY,List.find?_isSome,dB];constructor
 ·rintro⟨x,hx,e⟩;obtain⟨p,hp,rfl⟩:=aC.mp hx;exact⟨p.1,aC.mpr ⟨p,hp,rfl⟩,aT (fc (aQ e))⟩
 ·rintro⟨n,hn,e⟩;obtain⟨p,hp,rfl⟩:=aC.mp hn;exact⟨_,aC.mpr ⟨p,hp,rfl⟩,aT (du Sum.inl (aQ e))⟩
def X3(hs:Hs)(n:Nat)(c:d5):Hs:=hs.map λp=>if p.1=n then(p.1,c) else p
theorem Gj(h:n∈nums hs):putD (fM hs) (kN n) c.d=fM (X3 hs n c):=by
 unfold putD;rw[aK,fM,X3,cB,fM,cB]
 ·refine AE λp _=>?_;show(if kN p.1=kN n then(kN p.1,c.d) else(kN p.1,p.2.d))=_;by_cases e:p.1=n
  ·simp[e]
  ·have:¬kN p.1=kN n:=λz=>e (by have:(p.1:Int)=n:=fc z;omega);simp[e,this]
 ·obtain⟨p,hp,rfl⟩:=aC.mp h;exact dB.mpr ⟨_,aC.mpr ⟨p,hp,rfl⟩,aT rfl⟩
theorem Dx(h:n∉nums hs):putD (fM hs) (kN n) c.d=fM (hs++[(n,c)]):=by
 unfold putD;rw[aD]
 ·simp[fM]
 ·intro z;obtain⟨x,hx,e⟩:=dB.mp z;obtain⟨p,hp,rfl⟩:=aC.mp hx;have:(p.1:Int)=n:=fc (aQ e);exact h (aC.mpr ⟨p,hp,by omega⟩)
theorem GG(h:gU l):(l.map λn:Nat=>(n:Int)).Pairwise (·<=·):=dn.mpr (h.imp λz=>by omega)
theorem JX(h:gU l):(l.map λn:Nat=>(n:Int)).Nodup:=dn.mpr (h.imp λz e=>by omega)
theorem Ya(h:gU l):J7 (l.map λn:Nat=>(n:Int))=l.map λn:Nat=>(n:Int):=I9 (X0 _) (EI _) (GG h)
theorem DB(h:gU l):u9 (l.map λn:Nat=>(n:Int))=l.map λn:Nat=>(n:Int):=by
 refine I9 ((O3 _).trans ?_) (W0 _) (GG h);rw[R7 (ks:=[]) (by simpa using JX h)];exact mJ _
theorem vD(l:List Nat):c7 l=(l.map λn:Nat=>(n:Int)).map D.int:=by simp[c7]
noncomputable abbrev fN(hd cl:Nat)(lc lf:Int):O:=.ins "Cabinet" [("held",.ref hd),("claims",.ref cl),("last_coin",.int lc),("last_fact",.int lf)]
structure iq(g:G)(m hd cl:Nat)(lc lf:Int)(hs:Hs)(fs:Fs):Prop where
 o:g[m]?=some (fN hd cl lc lf)
 h:g[hd]?=some (.bN (fM hs))
 c:g[cl]?=some (.bN (jv fs))
structure kU(hs:Hs):Prop where
 inc:gU (nums hs)
 len:hs.length<=9
 good:∀p∈hs,pI p.2
theorem iq.at{g g':G}{m hd cl:Nat}{lc lf:Int}{hs:Hs}{fs:Fs}(C:iq g m hd cl lc lf hs fs)(e:Ex g g'):iq g' m hd cl lc lf hs fs:=⟨e.at C.o,e.at C.h,e.at C.c⟩
theorem Xl{F:Nat×d5->Nat×d5}(h:∀p,(F p).1=p.1):nums (hs.map F)=nums hs:=by
 unfold nums;rw[cB];exact AE λp _=>h p
structure TC(T:Nat->Option aJ):Prop where
 nf:NF T
 h2:T 2=some K0
 uG:T 12=some x8
 BJ:Ys T
 Zi:Yr T
 Zh:T 20=some FX
 Zf:T 74=some Ec
 Ze:T 75=some DZ
 Jp:T 177=some EC
 Jo:T 194=some EB
 xW:T 208=some Q3
 sg:T 209=some u4
 Jh:T 211=some N8
 Jg:T 212=some S5
 oS:T 214=some F7
 Jd:T 219=some V1
 Jc:T 220=some S1
 xS:T 221=some K3
 sf:T 222=some K5
 xR:T 223=some N6
 xQ:T 224=some N5
section
variable{Z:S}{t:MT}{it c elt:ME}{a9:List Nat}
inductive uc(α:Type)(P:eB)(t:MT)(c elt:ME)(Q:KD)(Z:S)(k:IK)(g1:G):Prop
 |mk (l:List α) (fl:α->D) (Sh:S->Prop) (p:α->Bool) (w:α->D) (hk:∀g',Ex g1 g'->k.Is (l.map fl) g') (hl:l.length<=1000) (h0:Sh Z)
   (hs:∀x Z g',x∈l->Ex g1 g'->Sh Z->jK t (fl x) Z λcj=>dq P c cj g' (λb g3=>b=p x/\Ex g1 g3/\if b=true then aP P elt cj g3 (λy g4=>y=w x/\Ex g1 g4/\Sh cj) iZ else Sh cj) iZ) (hd:∀g',Ex g1 g'->Q (.ref g'.length) (g'++[.lst ((l.filter p).map w)])):uc α P t c elt Q Z k g1
theorem tH(hP:i6 P)(h:hX P it Z g (uc α P t c elt Q (O5 Z a9 n)) E):aP P (.comp a9 n t it c elt) Z g Q E:=by
 refine tM hP (v5 hP it _ _ _ _ _ _ (λk g1 h=>?_) (λ_ _ z=>z) h);obtain⟨l,fl,Sh,p,w,hk,hl,h0,hs,hd⟩:=h;refine⟨l.map fl,λi ys Z g'=>Ex g1 g'/\ys=((l.take i).filter p).map w/\Sh Z,by simpa using hl,λi ys Z g' q=>⟨hk _ q.1,?_⟩,⟨Ex.refl _,by simp,h0⟩,λi x ys Z g' hx q=>?_,λys Z g' q=>?_⟩
 ·obtain⟨_,rfl,_⟩:=q;rw[ay];exact aI (hV _ _) (by rw[cg];omega)
 ·obtain⟨e1,rfl,sh⟩:=q;rw[aF,ae] at hx;obtain⟨x,hx,rfl⟩:=hx;refine y9 (λcj q=>m8 hP c _ _ _ _ _ _ (λb g3 q=>?_) (λ_ _ z=>z) q) (hs x Z g' (bH hx) e1 sh);obtain⟨rfl,e3,q⟩:=q;have ef:((l.take (i+1)).filter p).map w=((l.take i).filter p).map w++if p x=true then[w x] else[]:=by
   rw[fH,hx,dc,dU]
   congr 1
   cases z:p x<;>simp[z]
  cases hp:p x with
  |true =>
   rw[hp] at q ef;rw[aK rfl] at q ⊢;refine a6 hP elt _ _ _ _ _ _ (λy g4 q=>?_) (λ_ _ z=>z) q;obtain⟨rfl,e4,sh⟩:=q;exact⟨e4,by rw[ef];rfl,sh⟩
  |false =>
   rw[hp] at q ef;rw[aD (by decide)] at q ⊢;exact⟨e3,by rw[ef];simp,q⟩
 ·obtain⟨e1,rfl,sh⟩:=q;rw[ay,ki];exact hd g' e1
end
section
variable{T:Nat->Option aJ}{d:Nat}{c:Nat}{lc lf:Int}
theorem N1(l:List α):l.filter (λ_=>true)=l:=iN.mpr λ_ _=>rfl
theorem X9(hT:TC T)(C:iq g m hd cl lc lf hs fs)(inc:gU (nums hs))(hz:hs.length<=50)(h:Q (.ref g.length) (g++[.lst (c7 (nums hs))])):a8 T (k+1) 221 [.ref m] g Q E:=by
 refine call_of hT.xS rfl ?_;dsimp[K3,b5,List.replicate];walk_at"";refine E4 C.o rfl ?_;walk_at"";refine Gd C.h (WW hs) (by simp[nums];omega) ?_;rw[DB inc,<- vD];exact h
theorem R6(hT:TC T)(C:iq g m hd cl lc lf hs fs)(inc:gU (nums hs))(hz:hs.length<=50)(h:∀g' r,Ex g g'->g.length<=r->g'[r]?=some (.lst ((E5 hs).map d5.d))->Q (.ref r) g'):a8 T (k+2) 223 [.ref m] g Q E:=by
 refine call_of hT.xR rfl ?_;dsimp[N6,b5,List.replicate];walk_at"";refine tH (α:=Nat×d5) (b9 T _) (oG (b9 T _) ?_);walk_at"";refine o6 C.o rfl rfl ?_;walk_at"";refine X9 (k:=k) hT C inc hz ?_;have e1:=Ex.snoc g (O.lst (c7 (nums hs)));refine⟨_,_,rfl,b0 b8,hs,λp=>.int (p.1:Nat),λZ=>∃z1 z2,Z=[some (.ref m),z1,z2],λ_=>true,λp=>p.2.d,λg' e=>Q7 (b0 ?_),by omega,⟨none,none,rfl⟩,λp Z g' hp e sh=>?_,λg' e=>?_⟩
 ·rw[show hs.map (λp=>D.int (p.1:Nat))=c7 (nums hs) by simp[c7,nums]];exact e.at b8
 ·obtain⟨z1,z2,rfl⟩:=sh;refine A6 (R8 ⟨rfl,e,jC ?_⟩);walk_at"";have C':=(C.at e1).at e;refine E4 C'.o rfl ?_;walk_at"";exact m4 C'.h rfl (n8 (f:=d5.d) inc hp) ⟨rfl,e,_,_,rfl⟩
 ·rw[N1];refine h _ _ ((e1.trans e).trans (Ex.snoc _ _)) (e1.trans e).len ?_;rw[E5,cB];exact b8
theorem WO(hT:TC T)(C:iq g m hd cl lc lf hs fs)(inc:gU (nums fs))(hz:fs.length<=50)(h:∀g' r,Ex g g'->g.length<=r->g'[r]?=some (.lst (fs.map λf=>.tup [.int (f.1:Nat),.int f.2.1,.int f.2.2]))->Q (.ref r) g'):a8 T (k+2) 224 [.ref m] g Q E:=by
 refine call_of hT.xQ rfl ?_;dsimp[N5,b5,List.replicate];walk_at"";refine tH (α:=Nat×Int×Int) (b9 T _) (oG (b9 T _) ?_);walk_at"";refine E4 C.o rfl ?_;walk_at"";refine Gd C.c (WS fs) (by simp[nums];omega) ?_;rw[DB inc,<- vD];have e1:=Ex.snoc g (O.lst (c7 (nums fs)));refine⟨_,_,rfl,b0 b8,fs,λp=>.int (p.1:Nat),λZ=>∃z1 z2,Z=[some (.ref m),z1,z2],λ_=>true,λf=>.tup [.int (f.1:Nat),.int f.2.1,.int f.2.2],λg' e=>Q7 (b0 ?_),by omega,⟨none,none,rfl⟩,λp Z g' hp e sh=>?_,λg' e=>?_⟩
 ·rw[show fs.map (λp=>D.int (p.1:Nat))=c7 (nums fs) by simp[c7,nums]];exact e.at b8
 ·obtain⟨z1,z2,rfl⟩:=sh;refine A6 (R8 ⟨rfl,e,jC ?_⟩);walk_at"";have C':=(C.at e1).at e;have hv:=n8 (f:=λx:Int×Int=>D.tup [.int x.1,.int x.2]) inc hp;refine E4 C'.o rfl ?_;walk_at"";refine m4 C'.c rfl hv ?_;walk_at"";refine E4 C'.o rfl ?_;walk_at"";refine m4 C'.c rfl hv ?_;walk_at"";exact⟨rfl,e,_,_,rfl⟩
 ·rw[N1];exact h _ _ ((e1.trans e).trans (Ex.snoc _ _)) (e1.trans e).len b8
theorem WK(hT:TC T)(C:iq g m hd cl lc lf hs fs)(inc:gU (nums hs)){x:d5}(hn:(n,x)∈hs)(h:Q x.d g):a8 T (k+3) 222 [.ref m,.int (n:Nat)] g Q E:=by
 refine call_of hT.sf rfl ?_;dsimp[K5,b5,List.replicate];walk_at"";refine o6 C.o rfl rfl ?_;walk_at"";refine call_of hT.sg rfl ?_;dsimp[u4,b5,List.replicate];walk_at"";refine Q6 (k:=k) hT.nf ?_;walk_at"";refine E4 C.o rfl ?_;walk_at"";refine sT ⟨(E0 (fM hs) (kN n)).isSome,.inl ⟨_,_,kN n,rfl,C.h,rfl,rfl⟩,?_⟩;rw[show E0 (fM hs) (kN n)=some x.d from n8 (f:=d5.d) inc hn];walk_at"";refine iV rfl ?_;walk_at"";refine E4 C.o rfl ?_;walk_at"";exact m4 C.h rfl (n8 (f:=d5.d) inc hn) h
end
section
variable{T:Nat->Option aJ}{d:Nat}{c:Nat}
theorem GF{i:Int}{kb:Bool->Prop}(ha:B0 g y=some (ms.map .int))(h:kb (decide (i∈ms))):rm g (.int i) y kb:=by
 refine⟨_,.inr ⟨_,ms.map .int,.int i,ha,?_,rfl,?_,rfl,rfl⟩,?_⟩
 ·unfold AY;exact M8 ms
 ·exact lay_ints ms
 ·have:((ms.map PyData.int).any λq=>PyData.eqv q (.int i))=decide (i∈ms):=by
   rw[List.any_map,bY,dB,dW];constructor
   ·rintro⟨x,hx,e⟩;have:x=i:=by simpa[PyData.eqv] using e
    rw[<- this];exact hx
   ·intro hx;exact⟨i,hx,by simp[PyData.eqv]⟩
  rw[this];exact h
theorem Tb(hT:TC T)(C:iq g m hd cl lc lf hs fs){c:d5}(hc:j7 c=true)(hz:hs.length<9)(dF:∀n∈nums hs,n<=lc)(n2:m≠hd)(n3:cl≠hd)(n4:cl≠m)(h:∀g',g'.length=g.length->(∀i,i≠hd->i≠m->g'[i]?=g[i]?)->iq g' m hd cl (lc+1:Nat) lf (hs++[(lc+1,c)]) fs->Q (.int (lc+1:Nat)) g'):a8 T (k+6) 214 [.ref m,c.d] g Q E:=by
 refine call_of hT.oS rfl ?_;dsimp[F7,b5,List.replicate];walk_at"";refine call_of hT.BJ.2 rfl ?_;dsimp[O4,b5,List.replicate];walk_at"";refine Fc hT.nf hT.h2 hT.uG ?_;walk_at"";rw[hc];walk_at"";refine E4 C.o rfl ?_;walk_at"";refine zD C.h ?_;walk_at"";refine if2 (λz=>?_) (λ_=>?_)
 ·rw[fM,ay] at z;omega
 walk_at"";refine Ml ?_;walk_at"";refine⟨m,_,_,_,rfl,C.o,by simp,rfl,?_⟩;walk_at"";refine JV ?_;refine⟨_,C.o,by simp,?_⟩;have e3:(O.ins "Cabinet" (u3 "last_coin" (.int ((lc:Nat)+1)) [("held",.ref hd),("claims",.ref cl),("last_coin",.int (lc:Nat)),("last_fact",.int (lf:Nat))]))=fN hd cl (lc+1:Nat) (lf:Nat):=rfl;rw[e3];have nH:=get_set C.o (o':=fN hd cl (lc+1:Nat) (lf:Nat));walk_at"";refine E4 nH rfl ?_;walk_at"";refine E4 nH rfl ?_;walk_at"";have By:=d0 C.h n2 (o':=fN hd cl (lc+1:Nat) (lf:Nat));refine tm By rfl (by simp[fM];omega) ?_;rw[Dx (n:=lc+1) (λz=>by have:=dF _ z;omega)];walk_at"";have pT:=d0 nH (bg n2) (o':=O.bN (fM (hs++[(lc+1,c)])));refine E4 pT rfl ?_;walk_at"";refine h _ (by simp) (λi h1 h2=>by rw[aN (bg h1),aN (bg h2)]) ⟨pT,get_set By,d0 (d0 C.c (bg n4)) (bg n3)⟩
end
def zt:aJ:=⟨2,2,(.seq (.ifs (.gp (cw .Eq (bV .len aA) (aO 0)) (cw .Eq (.call 4 (cZ ao (aO 10))) (aO 4))) (.seq (.ret (.call 36 (cZ ao (bC (.bin .Add) (aO 3) (bV .len aA))))) .pass) .pass) (.seq (.ret (bh aA (.call 4 (cZ ao (bV .len aA))))) .pass))⟩
def An:aJ:=⟨0,0,(.seq (.ret (.mz (.cons (bT "coins") (BL (.prim .N7 .nil) (bT "facts") (.prim .N7 .nil) (bT "given") (aO 0) (bT "learnt") (aO 0))))) .pass)⟩
def zc:aJ:=⟨1,1,(.seq (.ret (.comp [0] 3 (.one 2) (.eL (bV .eK (bV .list (bh ao (bT "coins"))))) .no (bh (bh ao (bT "coins")) aM))) .pass)⟩
def zH:aJ:=⟨2,2,(.seq (.ifs (.cG (.dE (.call 13 (cq aA)))) (.seq (.ret (bC .tup (bT "BadCoin") (.lit .bc))) .pass) .pass) (.seq (.ifs (cw .Gt (bV .len (bh ao (bT "coins"))) (aO 8)) (.seq (.ret (bC .tup (bT "Full") (.lit .bc))) .pass) .pass) (.seq (.cF ao (bT "given") (bC (.bin .Add) (bh ao (bT "given")) (aO 1))) (.seq (.cF (bh ao (bT "coins")) (bh ao (bT "given")) aA) (.seq (.ret (bC .tup (bT "") (bh ao (bT "given")))) .pass)))))⟩
def Eb:aJ:=⟨3,4,(.seq (.set 3 (bV .list ao)) (.seq (.cF bf (.ite (cw .Eq aA (bT "lower")) (aO 0) (aO 2)) aM) (.seq (.ret (.prim .tup (nr (bh bf (aO 0)) (bh bf (aO 1)) (bh bf (aO 2)) (bh bf (aO 3)) (bh bf (aO 4))))) .pass)))⟩
def Cj:aJ:=⟨3,4,(.seq (.set 3 (.ite (cw .Eq aA (bT "lower")) (aO 0) (aO 2))) (.seq (.ret (.comp [3,0,2] 5 (.one 4) (.eL (bV .eK (bV .list (bh ao (bT "coins"))))) (cw .Eq (bh (bh (bh aA (bT "coins")) cA) ao) aM) cA)) .pass))⟩
def CT:aJ:=⟨4,6,(.seq (.ifs (cw .NotIn aA (bC .lst (bT "lower") (bT "upper"))) (.seq (.ret (bC .tup (bT "BadSide") (.lit .bc))) .pass) .pass) (.seq (.set 4 (.call 201 (dD ao aA bf))) (.seq (.ifs (.gp (cw .Eq (bV .len cA) (aO 0)) (cw .Eq (bV .len (.call 201 (dD ao aA aM))) (aO 0))) (.seq (.ret (bC .tup (bT "NoDie") (.lit .bc))) .pass) .pass) (.seq (.ifs (cw .Eq aM bf) (.seq (.ret (bC .tup (bT "SameOne") (.lit .bc))) .pass) .pass) (.seq (.eA (.one 5) (.eL cA) (.seq (.cF (bh ao (bT "coins")) dY (.call 200 (dD (bh (bh ao (bT "coins")) dY) aA aM))) .pass)) (.seq (.ret (bC .tup (bT "") cA)) .pass))))))⟩
def CU:aJ:=⟨4,7,(.seq (.ifs (cw .NotIn aA (bC .lst (bT "lower") (bT "upper"))) (.seq (.ret (bC .tup (bT "BadSide") (.lit .bc))) .pass) .pass) (.seq (.set 4 (.call 201 (dD ao aA aM))) (.seq (.ifs (cw .Eq (bV .len cA) (aO 0)) (.seq (.ret (bC .tup (bT "NoDie") (.lit .bc))) .pass) .pass) (.seq (.ifs (.cG (.dE (bV .all (.comp [4] 3 (.one 2) (.eL bf) .no (bC (.cmp .In) aM ao))))) (.seq (.ret (bC .tup (bT "NoCoin") (.lit .bc))) .pass) .pass) (.seq (.ifs (.gp (cw .Eq (bV .len bf) (aO 0)) (.gp (cw .Lt (bV .U0 bf) (bV .len bf)) (cw .Eq (bV .len bf) (bV .len cA)))) (.seq (.ret (bC .tup (bT "BadList") (.lit .bc))) .pass) .pass) (.seq (.set 6 (bh (.comp [0,1] 4 (.one 3) (.iT (aO 1) (aO 12)) (cw .Eq (bV .len (.call 201 (dD ao aA bf))) (aO 0)) bf) (aO 0))) (.seq (.eA (.one 5) (.eL bf) (.seq (.cF (bh ao (bT "coins")) dY (.call 200 (dD (bh (bh ao (bT "coins")) dY) aA eV))) .pass)) (.seq (.ret (bC .tup (bT "") eV)) .pass))))))))⟩
def H9(qc qf gv lr:Nat):List (Key×D):=[(.inr "coins",.ref qc),(.inr "facts",.ref qf),(.inr "given",.int (gv:Nat)),(.inr "learnt",.int (lr:Nat))]
theorem L1:E0 (H9 qc qf gv lr) (.inr "coins")=some (.ref qc):=rfl
theorem sQ:E0 (H9 qc qf gv lr) (.inr "facts")=some (.ref qf):=rfl
theorem As:E0 (H9 qc qf gv lr) (.inr "given")=some (.int (gv:Nat)):=rfl
theorem Pm{x:Nat}:putD (H9 qc qf gv lr) (.inr "given") (.int (x:Nat))=H9 qc qf x lr:=rfl
structure jS(g:G)(q qc qf gv lr:Nat)(hs:Hs)(fs:Fs):Prop where
 b:g[q]?=some (.bN (H9 qc qf gv lr))
 c:g[qc]?=some (.bN (fM hs))
 f:g[qf]?=some (.bN (jv fs))
theorem jS.at{g g':G}{q qc qf gv lr:Nat}{hs:Hs}{fs:Fs}(B:jS g q qc qf gv lr hs fs)(e:Ex g g'):jS g' q qc qf gv lr hs fs:=⟨e.at B.b,e.at B.c,e.at B.f⟩
structure TD(T:Nat->Option aJ):Prop where
 h4:T 4=some J9
 h5:T 5=some pA
 Jb:T 36=some zI
 Ja:T 37=some zt
 h8:T 8=some Q2
 uF:T 13=some L6
 yc:T 195=some An
 yb:T 196=some zc
 ya:T 197=some zH
 Jm:T 200=some Eb
 Jl:T 201=some Cj
 Jk:T 202=some CT
 Jj:T 203=some CU
section
variable{T:Nat->Option aJ}{d:Nat}{c:Nat}
theorem CW(hT:TD T)(hj:0<=j/\j<=1000)(D0:i8 g d)(h:∀(v:Int) g',i8 g' d->Gr d g g'->Q (.int v) g'):a8 T (k+3) 36 [.ref d,.int j] g Q E:=by
 refine call_of hT.Jb rfl ?_;dsimp[zI,b5,List.replicate];walk_at"";refine i9 (k:=k+1) hT.h4 D0 (by decide) (by decide) λr g1 _ _ D1 G1=>?_;walk_at"";refine if2 (λ_=>?_) (λ_=>?_)
 ·walk_at"";exact zW (k:=k) hT.h4 hT.h5 D1 λr g2 D2 G2=>h r g2 D2 (G1.trans G2)
 ·walk_at"";refine i9 (k:=k+1) hT.h4 D1 (by omega) (by omega) λr g2 _ _ D2 G2=>?_;walk_at"";exact h _ _ D2 (G1.trans G2)
theorem Na(hT:TD T)(hi:g[i]?=some (.lst (ns.map .int)))(hd:d<i)(hz:ns.length<=100)(D0:i8 g d)(h:∀(v:Int) g',i8 g' d->Gr d g g'->Q (.int v) g'):a8 T (k+4) 37 [.ref d,.ref i] g Q E:=by
 refine call_of hT.Ja rfl ?_;dsimp[zt,b5,List.replicate];walk_at"";rw[ay];refine if2 (λ_=>?_) (λc1=>?_)
 ·refine je rfl ?_;walk_at"";refine CW (k:=k) hT (by rw[ay];omega) D0 λv g2 D2 G2=>?_;exact h v g2 D2 G2
 walk_at"";refine i9 hT.h4 D0 (by decide) (by decide) λr g1 _ _ D1 G1=>?_;have Iz:=G1.at (by omega) hi;walk_at"";refine if2 (λ_=>?_) (λ_=>?_)
 ·walk_at"";refine CW (k:=k) hT (by rw[ay];omega) D1 λv g2 D2 G2=>?_;exact h v g2 D2 (G1.trans G2)
 ·walk_at"";rw[ay];refine i9 hT.h4 D1 (by omega) (by omega) λr2 g2 r0 r1 D2 G2=>?_;obtain⟨y,hy,hm⟩:=A4 (l:=ns.map D.int) r0 (by rw[ay];exact r1);obtain⟨v,_,rfl⟩:=aC.mp hm;refine E2 (b0 (G2.at (by omega) Iz)) hy ?_;walk_at"";exact h v g2 D2 (G1.trans G2)
theorem zm(hs:Hs):((fM hs).map (·.1)).map kD=c7 (nums hs):=by
 simp[fM,nums,c7,kD]
theorem Ez(fs:Fs):((jv fs).map (·.1)).map kD=c7 (nums fs):=by
 simp[jv,nums,c7,kD]
theorem F5(ha:g[a]?=some (.lst (c7 l)))(inc:gU l)(hz:l.length<=50)(h:Q (.ref g.length) (g++[.lst (c7 l)])):cI .eK [.ref a] g Q:=by
 rw[vD] at ha h;refine Nj (b0 ha) (by simp;omega) ?_;rw[Ya inc];exact h
theorem EK(hT:TD T)(B:jS g q qc qf gv lr hs fs)(inc:gU (nums hs))(hz:hs.length<=50)(h:∀g' r,Ex g g'->g.length<=r->g'[r]?=some (.lst ((E5 hs).map d5.d))->Q (.ref r) g'):a8 T (k+1) 196 [.ref q] g Q E:=by
 refine call_of hT.yb rfl ?_;dsimp[zc,b5,List.replicate];walk_at"";refine tH (α:=Nat×d5) (b9 T _) (oG (b9 T _) ?_);walk_at"";refine m4 B.b rfl L1 ?_;walk_at"";refine sZ B.c (by simp[fM];omega) ?_;rw[zm];walk_at"";refine F5 b8 inc (by rw[L5];exact hz) ?_;have e1:=(Ex.snoc g (O.lst (c7 (nums hs)))).trans (Ex.snoc _ (O.lst (c7 (nums hs))));refine⟨_,_,rfl,b0 b8,hs,λp=>.int (p.1:Nat),λZ=>∃z1 z2,Z=[some (.ref q),z1,z2],λ_=>true,λp=>p.2.d,λg' e=>Q7 (b0 ?_),by omega,⟨none,none,rfl⟩,λp Z g' hp e sh=>?_,λg' e=>?_⟩
 ·rw[show hs.map (λp=>D.int (p.1:Nat))=c7 (nums hs) by simp[c7,nums]];exact e.at b8
 ·obtain⟨z1,z2,rfl⟩:=sh;refine A6 (R8 ⟨rfl,e,jC ?_⟩);walk_at"";have B':=(B.at e1).at e;refine m4 B'.b rfl L1 ?_;walk_at"";exact m4 B'.c rfl (n8 (f:=d5.d) inc hp) ⟨rfl,e,_,_,rfl⟩
 ·rw[N1];refine h _ _ ((e1.trans e).trans (Ex.snoc _ _)) (e1.trans e).len ?_;rw[E5,cB];exact b8
end
def zG:aJ:=⟨2,3,(.seq (.ifs (cw .NotIn aA (bh ao (bT "coins"))) (.seq (.ret (bC .tup (bT "NoCoin") (.lit .bc))) .pass) .pass) (.seq (.eA (.one 2) (.eL (bV .eK (bV .list (bh ao (bT "facts"))))) (.seq (.ifs (cw .In aA (bh (bh ao (bT "facts")) aM)) (.seq (.expr (.dQ .ic (bh ao (bT "facts")) (cq aM))) .pass) .pass) .pass)) (.seq (.ret (bC .tup (bT "") (.dQ .ic (bh ao (bT "coins")) (cq aA)))) .pass)))⟩
def Fo:aJ:=⟨3,3,(.seq (.ifs (.gp (cw .NotIn aA (bh ao (bT "coins"))) (cw .NotIn aM (bh ao (bT "coins")))) (.seq (.ret (bC .tup (bT "NoCoin") (.lit .bc))) .pass) .pass) (.seq (.ifs (cw .Eq aA aM) (.seq (.ret (bC .tup (bT "SameOne") (.lit .bc))) .pass) .pass) (.seq (.cF ao (bT "learnt") (bC (.bin .Add) (bh ao (bT "learnt")) (aO 1))) (.seq (.cF (bh ao (bT "facts")) (bh ao (bT "learnt")) (bC .tup aA aM)) (.seq (.ret (bC .tup (bT "") (bh ao (bT "learnt")))) .pass)))))⟩
def tR:aJ:=⟨2,4,(.seq (.set 2 (bh aA (aO 0))) (.seq (.ifs (cw .Eq aM (bT "put")) (.seq (.ret (.call 197 (cZ ao (bh aA (aO 1))))) .pass) .pass) (.seq (.ifs (cw .Eq aM (bT "right")) (.seq (.ifs (cw .NotIn (bh aA (aO 1)) (bh ao (bT "coins"))) (.seq (.ret (bC .tup (bT "NoCoin") (.lit .bc))) .pass) .pass) (.seq (.ifs (.cG (.dE (.call 13 (cq (bh aA (aO 2)))))) (.seq (.ret (bC .tup (bT "BadCoin") (.lit .bc))) .pass) .pass) (.seq (.set 3 (bh (bh ao (bT "coins")) (bh aA (aO 1)))) (.seq (.cF (bh ao (bT "coins")) (bh aA (aO 1)) (bh aA (aO 2))) (.seq (.ret (bC .tup (bT "") bf)) .pass))))) .pass) (.seq (.ifs (cw .Eq aM (bT "out")) (.seq (.ret (.call 198 (cZ ao (bh aA (aO 1))))) .pass) .pass) (.seq (.ifs (cw .Eq aM (bT "tell")) (.seq (.ret (.call 199 (dD ao (bh aA (aO 1)) (bh aA (aO 2))))) .pass) .pass) (.seq (.ifs (cw .Eq aM (bT "untell")) (.seq (.ifs (cw .NotIn (bh aA (aO 1)) (bh ao (bT "facts"))) (.seq (.ret (bC .tup (bT "NoFact") (.lit .bc))) .pass) .pass) (.seq (.ret (bC .tup (bT "") (.dQ .ic (bh ao (bT "facts")) (cq (bh aA (aO 1)))))) .pass)) .pass) (.seq (.ifs (cw .Eq aM (bT "one")) (.seq (.ret (.call 202 (nt ao (bh aA (aO 1)) (bh aA (aO 2)) (bh aA (aO 3))))) .pass) .pass) (.seq (.ret (.call 203 (nt ao (bh aA (aO 1)) (bh aA (aO 2)) (bh aA (aO 3))))) .pass))))))))⟩
def K4:aJ:=⟨2,3,(.seq (.set 2 (bh aA (aO 0))) (.seq (.ifs (cw .Eq aM (bT "put")) (.seq (.ret (.bq "put" [("Cabinet",214)] ao (cq (bh aA (aO 1))))) .pass) .pass) (.seq (.ifs (cw .Eq aM (bT "right")) (.seq (.ret (.bq "right" [("Cabinet",215)] ao (cZ (bh aA (aO 1)) (bh aA (aO 2))))) .pass) .pass) (.seq (.ifs (cw .Eq aM (bT "out")) (.seq (.ret (.bq "out" [("Cabinet",216)] ao (cq (bh aA (aO 1))))) .pass) .pass) (.seq (.ifs (cw .Eq aM (bT "tell")) (.seq (.ret (.bq "tell" [("Cabinet",217)] ao (cZ (bh aA (aO 1)) (bh aA (aO 2))))) .pass) .pass) (.seq (.ifs (cw .Eq aM (bT "untell")) (.seq (.ret (.bq "untell" [("Cabinet",218)] ao (cq (bh aA (aO 1))))) .pass) .pass) (.seq (.ifs (cw .Eq aM (bT "one")) (.seq (.ret (.bq "one_die" [("Cabinet",219)] ao (dD (bh aA (aO 1)) (bh aA (aO 2)) (bh aA (aO 3))))) .pass) .pass) (.seq (.ret (.bq "two_dies" [("Cabinet",220)] ao (dD (bh aA (aO 1)) (bh aA (aO 2)) (bV .list (bh aA (aO 3)))))) .pass))))))))⟩
def zd:aJ:=⟨2,6,(.seq (.set 2 (.call 196 (cq aA))) (.seq (.ifs (.gp (cw .Eq (bV .len aM) (aO 0)) (cw .Eq (.call 4 (cZ ao (aO 3))) (aO 0))) (.seq (.ret (.call 22 (cq ao))) .pass) .pass) (.seq (.set 3 (bh aM (.call 4 (cZ ao (bV .len aM))))) (.seq (.set 4 (bh aM (.call 4 (cZ ao (bV .len aM))))) (.seq (.set 5 (.comp [0] 3 (.one 2) (.eL (bC .tup (bh bf (aO 1)) (bh cA (aO 3)))) .no (bV .tuple (.comp [0,2] 4 (.one 3) (.fq (aO 8)) (.gp (cw .In bf aA) (cw .Eq (.call 4 (cZ ao (aO 9))) (aO 0))) bf)))) (.seq (.ret (.prim .tup (nr (bh bf (aO 0)) (bh dY (aO 0)) (bh cA (aO 2)) (bh dY (aO 1)) (bh (.prim .lst (dD (aO 0) (bh bf (aO 4)) (aO 1410))) (.call 4 (cZ ao (aO 3))))))) .pass))))))⟩
def Y0:aJ:=⟨2,3,(.seq (.set 2 (bV .eK (bV .list (bh aA (bT "coins"))))) (.seq (.ifs (.gp (.cG (.dE (.call 7 (cZ (.bq "numbers" [("Cabinet",221)] ao .nil) aM)))) (.cG (.dE (.call 7 (cZ (.bq "coins" [("Cabinet",223)] ao .nil) (.call 196 (cq aA))))))) (.seq (.ret (.lit (.bl false))) .pass) .pass) (.seq (.ifs (.cG (.dE (bV .all (.comp [1,0] 4 (.one 3) (.eL aM) .no (.call 7 (cZ (.bq "coin" [("Cabinet",222)] aA (cq bf)) (bh (bh ao (bT "coins")) bf))))))) (.seq (.ret (.lit (.bl false))) .pass) .pass) (.seq (.ret (.call 7 (cZ (.bq "facts" [("Cabinet",224)] ao .nil) (.comp [1] 3 (.one 2) (.eL (bV .eK (bV .list (bh aA (bT "facts"))))) .no (bC (.bin .Add) (bV .tup aM) (bh (bh ao (bT "facts")) aM)))))) .pass))))⟩
def T9:aJ:=⟨2,2,(.seq (.expr (.bq "check_number" [("Cabinet",209)] ao (cq aA))) (.seq (.fC "claims" ["Cabinet"] ao (bC .lU (bV (.fld "claims") ao) aA)) (.seq (.ret (.dQ .ic (bV (.fld "held") ao) (cq aA))) .pass)))⟩
def V0:aJ:=⟨2,2,(.seq (.ifs (.gp (.cG (.dE (.call 38 (cq aA)))) (cw .NotIn aA (bV (.fld "claims") ao))) (.seq (.raise "NoFact" (cq (bT "no fact has that number"))) .pass) .pass) (.seq (.ret (.dQ .ic (bV (.fld "claims") ao) (cq aA))) .pass))⟩
structure Fl(a b c:Nat)(g g':G):Prop where
 len:g.length<=g'.length
 old:∀i,(i≠a/\i≠b/\i≠c)->i<g.length->g'[i]?=g[i]?
section
variable{c d:Nat}{g2:G}
theorem Fl.at(F:Fl a b c g g')(h:i≠a/\i≠b/\i≠c)(e:g[i]?=some o):g'[i]?=some o:=(F.old i h (m7 e)).trans e
theorem Ex.fl(e:Ex g g'):Fl a b c g g':=⟨e.len,λi _ h=>e.old i h⟩
theorem Fl.trans(F:Fl a b c g g')(F2:Fl a b c g' g2):Fl a b c g g2:=⟨aI F.len F2.len,λi h l=>(F2.old i h (ak l F.len)).trans (F.old i h l)⟩
theorem Fl.set(F:Fl a b c g g'){i:Nat}(h:i=a\/i=b\/i=c)(o:O):Fl a b c g (g'.set i o):=⟨by rw[List.length_set];exact F.len,λj hj l=>by rw[aN (by omega)];exact F.old j hj l⟩
theorem Fl.draw(F:Fl a b c g g')(D0:i8 g d)(h:d<a/\d<b/\d<c):i8 g' d:=by
 obtain⟨s,p,x,r,xs,e1,e2,hs,q⟩:=D0.ex;exact⟨s,p,x,r,xs,F.at (by omega) e1,F.at (by omega) e2,hs,q⟩
end
def iU(l:List Nat)(v:Int):Bool:=l.any λn=>decide ((n:Int)=v)
theorem V3:iU l v=true↔∃n∈l,v=(n:Nat):=by
 unfold iU;rw[dB];exact⟨λ⟨n,h,e⟩=>⟨n,h,(aQ e).symm⟩,λ⟨n,h,e⟩=>⟨n,h,aT e.symm⟩⟩
theorem O9{hs:List (Nat×α)}(h:iU (nums hs) v=true):∃n x,v=(n:Nat)/\(n,x)∈hs:=by
 obtain⟨n,hn,e⟩:=V3.mp h;obtain⟨⟨n',x⟩,hp,rfl⟩:=aC.mp hn;exact⟨n',x,e,hp⟩
def Q8{α:Type}(hs:List (Nat×α))(n:Nat):List (Nat×α):=hs.filter λp=>decide (p.1≠n)
theorem Rh{a:Nat}:decide (kN a≠kN b)=decide (a≠b):=decide_eq_decide.mpr (not_congr ⟨λz=>by have:(a:Int)=b:=fc z;omega,λz=>by rw[z]⟩)
theorem yP{f:α->D}(hs:List (Nat×α))(n:Nat):delD (hs.map λp=>(kN p.1,f p.2)) (kN n)=(Q8 hs n).map λp=>(kN p.1,f p.2):=by
 unfold delD Q8;rw[List.filter_map];exact du _ (List.filter_congr λp _=>Rh)
def C5(v:Int)(p:Nat×Int×Int):Bool:=!(decide (p.2.1=v)||decide (p.2.2=v))
def kP(p:Nat×Int×Int):Key×Int×Int:=(kN p.1,p.2)
theorem CO(fs:Fs):(fs.map kP).map iy=jv fs:=by
 unfold jv;rw[cB]
 rfl
theorem MN(fs:Fs)(v:Int):((fs.map kP).filter (T2 v)).map iy=jv (fs.filter (C5 v)):=by
 rw[List.filter_map,<- CO]
 rfl
theorem Ri(h:gU (nums fs)):((fs.map kP).map (·.1)).Nodup:=by
 rw[cB];exact dn.mpr ((dn.mp h).imp λz e=>by have:((_:Nat):Int)=(_:Nat):=fc e;omega)
theorem gU.sub{l m:List (Nat×α)}(h:gU (nums l))(s:m.Sublist l):gU (nums m):=uj (s.map _) h
noncomputable abbrev pD(p:Int×Int):D:=.tup [.int p.1,.int p.2]
structure TE(T:Nat->Option aJ):Prop where
 tc:TC T
 td:TD T
 h6:T 6=some tS
 h7:T 7=some A2
 yf:T 14=some S6
 xT:T 22=some Y1
 Ji:T 210=some N9
 xV:T 215=some N4
 xU:T 216=some T9
 Jf:T 217=some Fd
 Je:T 218=some V0
 xZ:T 198=some zG
 Jn:T 199=some Fo
 oV:T 204=some tR
 oU:T 205=some K4
 xY:T 206=some zd
 xX:T 207=some Y0
section
variable{T:Nat->Option aJ}{d:Nat}
theorem vg{f:α->D}{hs:List (Nat×α)}{kb:Bool->Prop}(h:g[a]?=some (.bN (hs.map λp=>(kN p.1,f p.2))))(hk:kb (iU (nums hs) v)):rm g (.int v) (.ref a) kb:=⟨_,.inl ⟨a,_,.inl v,rfl,h,rfl,rfl⟩,by rw[Mj];exact hk⟩
theorem Eo(hT:TC T)(C:iq g m hd cl lc lf hs fs)(hn:iU (nums hs) v=false->E ⟨"NoCoin"⟩ g)(h:iU (nums hs) v=true->Q .bc g):a8 T (k+2) 209 [.ref m,.int v] g Q E:=by
 refine call_of hT.sg rfl ?_;dsimp[u4,b5,List.replicate];walk_at"";refine Q6 (k:=k) hT.nf ?_;walk_at"";refine E4 C.o rfl ?_;walk_at"";refine sT (vg (f:=d5.d) C.h ?_);walk_at"";by_cases hv:iU (nums hs) v=true
 ·refine iV (by rw[hv];rfl) ?_;walk_at"";exact h hv
 ·have hv:=bQ.mpr hv;refine je (by rw[hv];rfl) ?_;walk_at"";exact hn hv
theorem CK(hT:TC T)(C:iq g m hd cl lc lf hs fs)(inc:gU (nums hs))(hn:iU (nums hs) v=false->E ⟨"NoCoin"⟩ g)(h:∀n x,v=(n:Nat)->(n,x)∈hs->Q x.d g):a8 T (k+3) 222 [.ref m,.int v] g Q E:=by
 refine call_of hT.sf rfl ?_;dsimp[K5,b5,List.replicate];walk_at"";refine o6 C.o rfl rfl ?_;walk_at"";refine Eo (k:=k) hT C hn λhv=>?_;obtain⟨n,x,rfl,hp⟩:=O9 hv;walk_at"";refine E4 C.o rfl ?_;walk_at"";refine m4 C.h rfl (n8 (f:=d5.d) inc hp) ?_;exact h n x rfl hp
theorem U1(hT:TC T)(hn:j7 c=false->E ⟨"BadCoin"⟩ g)(h:j7 c=true->Q .bc g):a8 T (k+5) 39 [c.d] g Q E:=by
 refine call_of hT.BJ.2 rfl ?_;dsimp[O4,b5,List.replicate];walk_at"";refine Fc hT.nf hT.h2 hT.uG ?_;walk_at"";by_cases hc:j7 c=true
 ·refine iV (by rw[hc];rfl) ?_;walk_at"";exact h hc
 ·have hc:=bQ.mpr hc;refine je (by rw[hc];rfl) ?_;walk_at"";exact hn hc
def q9(hs:Hs)(c:d5):Str:=if j7 c=false then "BadCoin" else if hs.length=9 then "Full" else ""
theorem Po(hT:TC T)(C:iq g m hd cl lc lf hs fs)(O1:kU hs)(dF:∀n∈nums hs,n<=lc)(n2:m≠hd)(n3:cl≠hd)(n4:cl≠m)(hn:q9 hs c≠""->E ⟨q9 hs c⟩ g)(h:q9 hs c=""->j7 c=true->hs.length<9->∀g',Fl m hd cl g g'->iq g' m hd cl (lc+1:Nat) lf (hs++[(lc+1,c)]) fs->Q (.int (lc+1:Nat)) g'):a8 T (k+6) 214 [.ref m,c.d] g Q E:=by
 by_cases hc:j7 c=true
 ·have hz:=O1.len;by_cases h9:hs.length=9
  ·have e:q9 hs c="Full":=by unfold q9;rw[aD (by rw[hc];decide),aK h9]
   rw[e] at hn;refine call_of hT.oS rfl ?_;dsimp[F7,b5,List.replicate];walk_at"";refine U1 (k:=k) hT (λz=>by rw[hc] at z;cases z) λ_=>?_;walk_at"";refine E4 C.o rfl ?_;walk_at"";refine zD C.h ?_;walk_at"";refine je (aT (by simp[fM,h9])) ?_;walk_at"";exact hn (by decide +kernel)
  ·have e:q9 hs c="":=by unfold q9;rw[aD (by rw[hc];decide),aD h9]
   exact Tb (k:=k) hT C hc (by omega) dF n2 n3 n4 λg' l o C'=>h e hc (by omega) g' ⟨by omega,λi hi _=>o i hi.2.1 hi.1⟩ C'
 ·have hc:=bQ.mpr hc;have e:q9 hs c="BadCoin":=by unfold q9;rw[aK hc]
  rw[e] at hn;refine call_of hT.oS rfl ?_;dsimp[F7,b5,List.replicate];walk_at"";exact U1 (k:=k) hT (λ_=>hn (by decide +kernel)) λz=>by rw[hc] at z;cases z
def l0(hs:Hs)(v:Int)(c:d5):Str:=if iU (nums hs) v=false then "NoCoin" else if j7 c=false then "BadCoin" else ""
theorem Ll(hT:TE T)(C:iq g m hd cl lc lf hs fs)(O1:kU hs)(n2:m≠hd)(n3:cl≠hd)(hn:l0 hs v c≠""->E ⟨l0 hs v c⟩ g)(h:l0 hs v c=""->j7 c=true->∀n x g',v=(n:Nat)->(n,x)∈hs->Fl m hd cl g g'->iq g' m hd cl lc lf (X3 hs n c) fs->Q x.d g'):a8 T (k+6) 215 [.ref m,.int v,c.d] g Q E:=by
 have hz:=O1.len;refine call_of hT.xV rfl ?_;dsimp[N4,b5,List.replicate];walk_at"";refine o6 C.o rfl rfl ?_;walk_at"";refine CK (k:=k+2) hT.tc C O1.inc (λhv=>?_) λn x e hp=>?_
 ·have e:l0 hs v c="NoCoin":=by unfold l0;rw[aK hv]
  rw[e] at hn;exact hn (by decide +kernel)
 have hv:iU (nums hs) v=true:=V3.mpr ⟨n,aC.mpr ⟨_,hp,rfl⟩,e⟩;subst e;walk_at"";refine U1 (k:=k) hT.tc (λhc=>?_) λhc=>?_
 ·have e:l0 hs n c="BadCoin":=by unfold l0;rw[aD (by rw[hv];decide),aK hc]
  rw[e] at hn;exact hn (by decide +kernel)
 have e:l0 hs n c="":=by unfold l0;rw[aD (by rw[hv];decide),aD (by rw[hc];decide)]
 walk_at"";refine E4 C.o rfl ?_;walk_at"";refine tm C.h rfl (by simp[fM];omega) ?_;rw[Gj (aC.mpr ⟨_,hp,rfl⟩)];walk_at"";exact h e hc n x _ rfl hp ((Ex.fl (Ex.refl g)).set (.inr (.inl rfl)) _) ⟨d0 C.o (bg n2),get_set C.h,d0 C.c (bg n3)⟩
theorem Pl(hT:TE T)(C:iq g m hd cl lc lf hs fs)(O1:kU hs)(inc:gU (nums fs))(hf:fs.length<1000)(n2:m≠hd)(n3:cl≠hd)(hn:iU (nums hs) v=false->E ⟨"NoCoin"⟩ g)(h:∀n x g',v=(n:Nat)->(n,x)∈hs->Fl m hd cl g g'->iq g' m hd g.length lc lf (Q8 hs n) (fs.filter (C5 v))->Q x.d g'):a8 T (k+3) 216 [.ref m,.int v] g Q E:=by
 have lm:=m7 C.o;have lh:=m7 C.h;refine call_of hT.xU rfl ?_;dsimp[T9,b5,List.replicate];walk_at"";refine o6 C.o rfl rfl ?_;walk_at"";refine Eo (k:=k) hT.tc C hn λhv=>?_;obtain⟨n,x,rfl,hp⟩:=O9 hv;walk_at"";refine E4 C.o rfl ?_;walk_at"";refine KG (fs:=fs.map kP) (by rw[CO];exact C.c) (by simpa using hf) (Ri inc) ?_;rw[MN];have e1:=Ex.snoc g (O.bN (jv (fs.filter (C5 (n:Nat)))));have s1:=b8 (g:=g) (o:=O.bN (jv (fs.filter (C5 (n:Nat)))));have C1:=C.at e1;generalize g++[_]=g1 at *;walk_at"";refine tu C1.o (by simp) (by simp) ?_;have e3:(O.ins "Cabinet" (u3 "claims" (.ref g.length) [("held",.ref hd),("claims",.ref cl),("last_coin",.int (lc:Nat)),("last_fact",.int (lf:Nat))]))=fN hd g.length (lc:Nat) (lf:Nat):=rfl;rw[e3];have o2:=get_set C1.o (o':=fN hd g.length (lc:Nat) (lf:Nat));have h2:=d0 C1.h n2 (o':=fN hd g.length (lc:Nat) (lf:Nat));walk_at"";refine E4 o2 rfl ?_;walk_at"";refine⟨zJ h2,?_⟩;walk_at"";refine Aa h2 rfl (n8 (f:=d5.d) O1.inc hp) ?_;rw[show delD (fM hs) (kN n)=fM (Q8 hs n) from yP (f:=d5.d) hs n];exact h n x _ rfl hp (((Ex.fl e1).set (.inl rfl) _).set (.inr (.inl rfl)) _) ⟨d0 o2 (bg n2),get_set h2,d0 (d0 s1 (by omega)) (by omega)⟩
end
structure Sd where
 lc:Nat
 lf:Nat
 hs:Hs
 fs:Fs
structure kH(s:Sd):Prop where
 K:kU s.hs
 lt:∀j∈nums s.hs,j<=s.lc
 inc:gU (nums s.fs)
 wL:∀j∈nums s.fs,j<=s.lf
 fl:s.fs.length<=s.lf
inductive jA where
 |val (d:D)|lst (l:List Nat)
def jA.at(lo:Nat)(g:G)(y:D):jA->Prop
 |.val d=>y=d
 |.lst l=>∃r,y=.ref r/\lo<=r/\g[r]?=some (.lst (c7 l))
def jA.ok:jA->Prop
 |.val d=>∀g,k8 g 2 d d
 |.lst l=>l.length<=1000
theorem k8.up{x:D}(h:k8 g n x y):k8 g (n+1) x y:=by
 induction h with
 |bc=>exact .bc
 |bl b=>exact .bl b
 |int i=>exact .int i
 |str x=>exact .str x
 |tup hl h hz ih=>exact .tup hl ih hz
 |lst ha hb hl h hz ih=>exact .lst ha hb hl ih hz
theorem zp(ms:List Int)(hz:ms.length<=1000):k8 g (n+1) (.tup (ms.map .int)) (.tup (ms.map .int)):=by
 refine .tup rfl (λi x y hx hy=>?_) (by simpa using hz);rw[hx] at hy;cases hy;rw[aF,ae] at hx;obtain⟨j,_,rfl⟩:=hx;exact .int _
theorem S7(h:pI c):k8 g 2 c.d c.d:=by
 have h1:=h.l8;have h2:=h.u8;refine .tup rfl (λi x y hx hy=>?_) (by simp);rw[hx] at hy;cases hy
 match i,hx with
 |0,hx=>cases hx;exact .int _
 |1,hx=>cases hx;exact zp _ (by omega)
 |2,hx=>cases hx;exact .int _
 |3,hx=>cases hx;exact zp _ (by omega)
 |4,hx=>cases hx;exact .int _
 |i+5,hx=>simp at hx
section
variable{T:Nat->Option aJ}{d:Nat}
theorem Vc(O1:kU hs)(ha:g[a]?=some (.lst ((E5 hs).map d5.d)))(hb:g[b]?=some (.lst ((E5 hs).map d5.d))):k8 g 3 (.ref a) (.ref b):=by
 refine .lst ha hb rfl (λi x y hx hy=>?_) (by have:=O1.len;simp[E5];omega);rw[hx] at hy;cases hy;rw[aF,ae] at hx;obtain⟨c,hc,rfl⟩:=hx;obtain⟨p,hp,rfl⟩:=aC.mp (bH hc);exact S7 (O1.good p hp)
theorem DX(ha:g[a]?=some (.lst (c7 l)))(hb:g[b]?=some (.lst (c7 l)))(hz:l.length<=1000):k8 g 1 (.ref a) (.ref b) :=
 Ue ha hb (λx hx=>by obtain⟨i,_,rfl⟩:=aC.mp hx;exact .inl ⟨_,rfl⟩) (by simpa[c7] using hz)
theorem jA.OX{an:jA}(ok:an.ok){lo l2:Nat}{y2:D}(h:an.at lo g y)(h2:an.at l2 g y2):k8 g 2 y y2:=by
 cases an with
 |val d=>rw[show y=d from h,show y2=d from h2];exact ok g
 |lst l =>
  obtain⟨r,rfl,_,e⟩:=h;obtain⟨r2,rfl,_,e2⟩:=h2;exact(DX e e2 ok).up
theorem SE(hT:TE T)(B:jS g q qc qf gv lr hs fs)(O1:kU hs)(dF:∀n∈nums hs,n<=gv)(n2:q≠qc)(n3:qf≠qc)(n4:qf≠q)(hn:q9 hs c≠""->∀g',Ex g g'->Q (.tup [.str (q9 hs c),.bc]) g')(h:q9 hs c=""->∀g',Fl q qc qf g g'->jS g' q qc qf (gv+1) lr (hs++[(gv+1,c)]) fs->Q (.tup [.str "",.int (gv+1:Nat)]) g'):a8 T (k+3) 197 [.ref q,c.d] g Q E:=by
 have hz:=O1.len;refine call_of hT.td.ya rfl ?_;dsimp[zH,b5,List.replicate];walk_at"";refine Ep (k:=k) (d:=g.length) hT.td.h8 hT.td.uF λg1 G1 _=>?_;have e1:=Ex.Cn G1;have B1:=B.at e1;walk_at"";by_cases hc:j7 c=true
 ·refine iV (by rw[hc];rfl) ?_;walk_at"";refine m4 B1.b rfl L1 ?_;walk_at"";refine zD B1.c ?_;walk_at"";rw[fM,ay];refine if2 (λz=>?_) (λz=>?_)
  ·have e:q9 hs c="Full":=by unfold q9;rw[aD (by rw[hc];decide),aK (by omega)]
   rw[e] at hn;walk_at"";exact hn (by decide +kernel) _ e1
  have e:q9 hs c="":=by unfold q9;rw[aD (by rw[hc];decide),aD (by omega)]
  walk_at"";refine m4 B1.b rfl As ?_;walk_at"";refine tm B1.b rfl (by simp[H9]) ?_;rw[show((gv:Nat):Int)+1=((gv+1:Nat):Int) by omega,Pm];have b2:=get_set B1.b (o':=O.bN (H9 qc qf (gv+1) lr));have c2:=d0 B1.c n2 (o':=O.bN (H9 qc qf (gv+1) lr));walk_at"";refine m4 b2 rfl L1 ?_;walk_at"";refine m4 b2 rfl As ?_;walk_at"";refine tm c2 rfl (by simp[fM];omega) ?_;rw[Dx (n:=gv+1) (λz=>by have:=dF _ z;omega)];have b3:=d0 b2 (bg n2) (o':=O.bN (fM (hs++[(gv+1,c)])));walk_at"";refine m4 b3 rfl As ?_;walk_at"";exact h e _ (((Ex.fl e1).set (.inl rfl) _).set (.inr (.inl rfl)) _) ⟨b3,get_set c2,d0 (d0 B1.f (bg n4)) (bg n3)⟩
 ·have hc:=bQ.mpr hc;have e:q9 hs c="BadCoin":=by unfold q9;rw[aK hc]
  rw[e] at hn;refine je (by rw[hc];rfl) ?_;walk_at"";exact hn (by decide +kernel) _ e1
theorem drop_eq(h:fs[i]?=some f):fs.drop i=f::fs.drop (i+1):=by
 obtain⟨hi,e⟩:=ax.mp h;rw[dG hi,e]
def G0(fs:Fs)(v:Int)(i:Nat):Fs:=(fs.take i).filter (C5 v)++fs.drop i
theorem WR(fs:Fs)(v:Int)(i:Nat):(G0 fs v i).Sublist fs:=by
 conv=>rhs;rw[<- gZ i fs]
 exact List.Sublist.append iM (List.Sublist.refl _)
theorem WQ(h:fs[i]?=some f):f∈G0 fs v i:=aU _ (by rw[drop_eq h];simp)
theorem TR(h:fs[i]?=some f)(hk:C5 v f=true):G0 fs v (i+1)=G0 fs v i:=by
 unfold G0;rw[drop_eq h,fH,h];simp[hk]
theorem TQ(inc:gU (nums fs))(h:fs[i]?=some f)(hk:C5 v f=false):Q8 (G0 fs v i) f.1=G0 fs v (i+1):=by
 obtain⟨hi,e⟩:=ax.mp h;have pw:=fQ.mp (dn.mp inc);unfold G0 Q8;rw[drop_eq h,fH,h,dc,cX];simp only[ne_eq,not_true,decide_false,Bool.false_eq_true,if_false,Option.toList_some,List.filter_append,List.filter_cons,hk,List.filter_nil,List.append_nil]
 congr 1
 ·refine iN.mpr λp hp=>aT λz=>?_;obtain⟨j,hj,e2⟩:=iL (cy.mp hp).1;rw[cg] at hj;have:=pw j i (by omega) hi (by omega);rw[jI] at e2;rw[e,e2] at this;omega
 ·refine iN.mpr λp hp=>aT λz=>?_;obtain⟨j,hj,e2⟩:=iL hp;rw[gz] at hj;have:=pw i (i+1+j) hi (by omega) (by omega);rw[YA] at e2;rw[e,e2] at this;omega
theorem SD(hT:TE T)(B:jS g q qc qf gv lr hs fs)(O1:kU hs)(inc:gU (nums fs))(hf:fs.length<=50)(n2:q≠qc)(n3:qf≠qc)(n4:qf≠q)(hn:iU (nums hs) v=false->Q (.tup [.str "NoCoin",.bc]) g)(h:∀n x g',v=(n:Nat)->(n,x)∈hs->Fl q qc qf g g'->jS g' q qc qf gv lr (Q8 hs n) (fs.filter (C5 v))->Q (.tup [.str "",x.d]) g'):a8 T (k+1) 198 [.ref q,.int v] g Q E:=by
 refine call_of hT.xZ rfl ?_;dsimp[zG,b5,List.replicate];walk_at"";refine m4 B.b rfl L1 ?_;walk_at"";refine sT (vg (f:=d5.d) B.c ?_);walk_at"";by_cases hv:iU (nums hs) v=true
 case neg =>
  have hv:=bQ.mpr hv;refine je (by rw[hv];rfl) ?_;walk_at"";exact hn hv
 refine iV (by rw[hv];rfl) ?_;obtain⟨n,x,rfl,hp⟩:=O9 hv;walk_at"";refine va (b9 T _) (oG (b9 T _) ?_);walk_at"";refine m4 B.b rfl sQ ?_;walk_at"";refine sZ B.f (by simp[jv];omega) ?_;rw[Ez];walk_at"";refine F5 b8 inc (by rw[L5];exact hf) ?_;have e1:=(Ex.snoc g (O.lst (c7 (nums fs)))).trans (Ex.snoc _ (O.lst (c7 (nums fs))));have s1:=b8 (g:=g++[O.lst (c7 (nums fs))]) (o:=O.lst (c7 (nums fs)));have l1:g.length<(g++[O.lst (c7 (nums fs))]).length:=by simp
 generalize (g++[O.lst (c7 (nums fs))]).length=sr at *;generalize (g++[O.lst (c7 (nums fs))])++[O.lst (c7 (nums fs))]=g1 at *;have lq:=m7 B.f;refine⟨sr,_,rfl,b0 s1,c7 (nums fs),λi Z g'=>(∃z,Z=[some (.ref q),some (.int (n:Nat)),z])/\Fl q qc qf g g'/\g'[sr]?=some (.lst (c7 (nums fs)))/\jS g' q qc qf gv lr hs (G0 fs (n:Nat) i),λi Z g' p=>Q7 (b0 p.2.2.1),⟨⟨none,rfl⟩,Ex.fl e1,s1,?_⟩,λi y Z g' hy p=>?_,λZ g' p=>?_⟩
 ·rw[show G0 fs (n:Nat) 0=fs by simp[G0]];exact B.at e1
 ·obtain⟨⟨z,rfl⟩,F2,s2,B2⟩:=p;rw[c7,aF,ae] at hy;obtain⟨j,hj,rfl⟩:=hy;rw[nums,aF,ae] at hj;obtain⟨⟨j',x1,x2⟩,rR,rfl⟩:=hj;have wO:=inc.sub (WR fs (n:Nat) i);have vm:=n8 (f:=pD) wO (WQ (v:=(n:Nat)) rR);refine A6 ?_
  try show wpS _ _ _ _ _ _
  walk_at"";refine m4 B2.b rfl sQ ?_;walk_at"";refine m4 B2.f rfl vm ?_;walk_at"";refine Ak (GF (ms:=[x1,x2]) rfl ?_);walk_at"";by_cases hk:C5 (n:Nat) (j',x1,x2)=true
  ·refine iV (aR λz=>?_) ?_
   ·unfold C5 at hk;simp at hk z;omega
   walk_at"";refine⟨⟨_,rfl⟩,F2,s2,?_⟩;rw[TR rR hk];exact B2
  ·have hk:=bQ.mpr hk;refine je (aT ?_) ?_
   ·unfold C5 at hk;simp at hk ⊢;omega
   walk_at"";refine m4 B2.b rfl sQ ?_;walk_at"";refine⟨zJ B2.f,?_⟩;walk_at"";refine Aa B2.f rfl vm ?_;rw[show delD (jv (G0 fs (n:Nat) i)) (kN j')=jv (Q8 (G0 fs (n:Nat) i) j') from yP (f:=pD) _ _,TQ inc rR hk];exact⟨⟨_,rfl⟩,F2.set (.inr (.inr rfl)) _,d0 s2 (by omega),d0 B2.b n4,d0 B2.c n3,get_set B2.f⟩
 ·obtain⟨⟨z,rfl⟩,F2,s2,B2⟩:=p;rw[show G0 fs (n:Nat) (c7 (nums fs)).length=fs.filter (C5 (n:Nat)) by simp[G0,c7,nums]] at B2
  try show wpS _ _ _ _ _ _
  walk_at"";refine m4 B2.b rfl L1 ?_;walk_at"";refine⟨zJ B2.c,?_⟩;walk_at"";refine Aa B2.c rfl (n8 (f:=d5.d) O1.inc hp) ?_;rw[show delD (fM hs) (kN n)=fM (Q8 hs n) from yP (f:=d5.d) hs n];walk_at"";exact h n x _ rfl hp (F2.set (.inr (.inl rfl)) _) ⟨d0 B2.b (bg n2),get_set B2.c,d0 B2.f (bg n3)⟩
end
structure Ad(d m hd cl q qc qf:Nat):Prop where
 h:d<m/\m<hd/\hd<q/\q<qc/\qc<qf/\d<cl/\cl≠m/\cl≠hd/\cl≠q/\cl≠qc/\cl≠qf
structure Wd(g:G)(d m hd cl q qc qf:Nat)(s:Sd):Prop where
 dr:i8 g d
 C:iq g m hd cl s.lc s.lf s.hs s.fs
 B:jS g q qc qf s.lc s.lf s.hs s.fs
 K:kH s
 A:Ad d m hd cl q qc qf
def Dr(T:Nat->Option aJ)(k:Nat)(g:G)(m hd cl:Nat)(dd:D)(e:Str)(an:jA)(s':Sd):Prop:=∀(Q:KD) (E:KX),(e≠""->∀g',Ex g g'->E ⟨e⟩ g') ->
 (e=""->∀g' y iz,Fl m hd cl g g'->(iz=cl\/g.length<=iz)->iq g' m hd iz s'.lc s'.lf s'.hs s'.fs->jA.at g.length g' y an->Q y g')->a8 T (k+10) 205 [.ref m,dd] g Q E
def Ou(T:Nat->Option aJ)(k:Nat)(g:G)(q qc qf:Nat)(dd:D)(e:Str)(an:jA)(s':Sd):Prop:=∀(Q:KD) (E:KX),(e≠""->∀g',Ex g g'->Q (.tup [.str e,.bc]) g') ->
 (e=""->∀g' y,Fl q qc qf g g'->jS g' q qc qf s'.lc s'.lf s'.hs s'.fs->jA.at g.length g' y an->Q (.tup [.str "",y]) g')->a8 T (k+11) 204 [.ref q,dd] g Q E
inductive Step(T:Nat->Option aJ)(k:Nat)(g:G)(m hd cl q qc qf:Nat)(s:Sd)(Wo:Str->Prop)(dd:D):Prop
 |mk (e:Str) (an:jA) (s':Sd) (ok:an.ok) (K:e=""->kH s') (l:s'.lf<=s.lf+1) (hw:Wo e) (hc:Dr T k g m hd cl dd e an s') (hb:∀g1,Fl m hd cl g g1->jS g1 q qc qf s.lc s.lf s.hs s.fs->Ou T k g1 q qc qf dd e an s'):Step T k g m hd cl q qc qf s Wo dd
def lW(e:Str):Prop:=e="BadCoin"\/e="Full"\/e="NoCoin"\/e=""
theorem XI(hs:Hs)(c:d5):lW (q9 hs c):=by
 unfold q9 lW;split
 ·simp
 ·split<;>simp
theorem Vt(hs:Hs)(v:Int)(c:d5):lW (l0 hs v c):=by
 unfold l0 lW;split
 ·simp
 ·split<;>simp
theorem ND(h:q9 hs c=""):j7 c=true/\hs.length≠9:=by
 unfold q9 at h;split at h
 ·exact absurd h (by decide +kernel)
 ·rename_i c1;split at h
  ·exact absurd h (by decide +kernel)
  ·rename_i c2;exact⟨by simpa using c1,c2⟩
theorem kH.put(K:kH s)(hB:CB c)(h:q9 s.hs c=""):kH ⟨s.lc+1,s.lf,s.hs++[(s.lc+1,c)],s.fs⟩:=by
 obtain⟨hg,h9⟩:=ND h;have hz:=K.K.len;refine⟨⟨?_,by simp;omega,λp hp=>?_⟩,λj hj=>?_,K.inc,K.wL,K.fl⟩
 ·unfold nums gU;rw[dU,vX];refine⟨K.K.inc,by simp,λx hx y hy=>?_⟩;have:=K.lt x hx;simp at hy;omega
 ·rcases dS.mp hp with z|z
  ·exact K.K.good p z
  ·rw[dX.mp z];exact⟨hg,hB.1,hB.2⟩
 ·unfold nums at hj;rw[dU] at hj;rcases dS.mp hj with z|z
  ·exact Yy (K.lt j z)
  ·simp at z;show j<=s.lc+1;omega
theorem kH.sub{s:Sd}(K:kH s){h2:Hs}{f2:Fs}(a:h2.Sublist s.hs)(b:f2.Sublist s.fs):kH ⟨s.lc,s.lf,h2,f2⟩ :=
 ⟨⟨K.K.inc.sub a,aI a.length_le K.K.len,λp hp=>K.K.good p (a.subset hp)⟩,λj hj=>K.lt j ((a.map _).subset hj),K.inc.sub b,λj hj=>K.wL j ((b.map _).subset hj),aI b.length_le K.fl⟩
theorem kH.same(K:kH s){h2:Hs}(O2:kU h2)(e:nums h2=nums s.hs):kH ⟨s.lc,s.lf,h2,s.fs⟩:=⟨O2,λj hj=>K.lt j (e▸hj),K.inc,K.wL,K.fl⟩
theorem uniq{f:α->D}{hs:List (Nat×α)}(inc:gU (nums hs)){n':Nat}{x x':α}(h:(n,x)∈hs)(h':(n',x')∈hs)(e:((n:Nat):Int)=(n':Nat)):n=n'/\f x=f x':=by
 have:n=n':=by omega
 subst this;exact⟨rfl,aB ((n8 (f:=f) inc h).symm.trans (n8 (f:=f) inc h'))⟩
theorem NT(O1:kU hs)(hg:pI c):kU (X3 hs n c)/\nums (X3 hs n c)=nums hs:=by
 have e:nums (X3 hs n c)=nums hs:=Xl λp=>by split<;>rfl
 refine⟨⟨by rw[e];exact O1.inc,by simpa[X3] using O1.len,λp hp=>?_⟩,e⟩;obtain⟨p,h1,rfl⟩:=aC.mp hp;split
 ·exact hg
 ·exact O1.good p h1
section
variable{T:Nat->Option aJ}{d:Nat}
theorem Wd.box(W:Wd g d m hd cl q qc qf s){g1:G}(F:Fl m hd cl g g1):jS g1 q qc qf s.lc s.lf s.hs s.fs:=by
 have:=W.A.h;exact⟨F.at (by omega) W.B.b,F.at (by omega) W.B.c,F.at (by omega) W.B.f⟩
theorem Ye(hT:TE T)(W:Wd g d m hd cl q qc qf s)(hB:CB c):Step T k g m hd cl q qc qf s lW (.tup [.str "put",c.d]):=by
 have ad:=W.A.h;refine⟨q9 s.hs c,.val (.int (s.lc+1:Nat)),⟨s.lc+1,s.lf,s.hs++[(s.lc+1,c)],s.fs⟩,λ_=>.int _,W.K.put hB,by simp,XI _ _,λQ E hn h=>?_,λg1 F B Q E hn h=>?_⟩
 ·refine call_of hT.oU rfl ?_;dsimp[K4,b5,List.replicate];walk_at"";refine je (by decide +kernel) ?_;walk_at"";refine o6 W.C.o rfl rfl ?_;walk_at"";exact Po (k:=k+3) hT.tc W.C W.K.K W.K.lt (by omega) (by omega) (by omega) (λz=>hn z _ (Ex.refl g)) λe _ _ g' F' C'=>h e g' _ cl F' (.inl rfl) C' rfl
 ·refine call_of hT.oV rfl ?_;dsimp[tR,b5,List.replicate];walk_at"";refine je (by decide +kernel) ?_;walk_at"";exact SE (k:=k+7) hT B W.K.K W.K.lt (by omega) (by omega) (by omega) hn λe g' F' B'=>h e g' _ F' B' rfl
theorem VA(hT:TE T)(W:Wd g d m hd cl q qc qf s)(hB:CB c):Step T k g m hd cl q qc qf s lW (.tup [.str "right",.int v,c.d]):=by
 have ad:=W.A.h;have O1:=W.K.K;have hz:=O1.len;obtain⟨an,s',ok,K',l',key⟩:∃(an:jA) (s':Sd),an.ok/\(l0 s.hs v c=""->kH s')/\s'.lf<=s.lf+1/\∀n x,v=(n:Nat)->(n,x)∈s.hs->an=.val x.d/\s'=⟨s.lc,s.lf,X3 s.hs n c,s.fs⟩:=by
  by_cases hv:iU (nums s.hs) v=true
  ·obtain⟨n,x,rfl,hp⟩:=O9 hv;refine⟨.val x.d,⟨s.lc,s.lf,X3 s.hs n c,s.fs⟩,λ_=>S7 (O1.good _ hp),λz=>?_,by simp,λn' x' e fz=>?_⟩
   ·have hg:j7 c=true:=by
     unfold l0 at z;rw[aD (by rw[hv];decide)] at z;split at z
     ·exact absurd z (by decide +kernel)
     ·rename_i hc;simpa using hc
    have:=NT (n:=n) O1 (c:=c) ⟨hg,hB.1,hB.2⟩;exact W.K.same this.1 this.2
   ·obtain⟨rfl,e2⟩:=uniq (f:=d5.d) O1.inc hp fz e;exact⟨by rw[e2],rfl⟩
  ·refine⟨.val .bc,s,λ_=>.bc,λz=>?_,by omega,λn x e hp=>absurd (V3.mpr ⟨n,aC.mpr ⟨_,hp,rfl⟩,e⟩) hv⟩;unfold l0 at z;rw[aK (bQ.mpr hv)] at z;exact absurd z (by decide +kernel)
 refine⟨l0 s.hs v c,an,s',ok,K',l',Vt _ _ _,λQ E hn h=>?_,λg1 F B Q E hn h=>?_⟩
 ·refine call_of hT.oU rfl ?_;dsimp[K4,b5,List.replicate];walk_at"";refine iV (by decide +kernel) ?_;walk_at"";refine je (by decide +kernel) ?_;walk_at"";refine o6 W.C.o rfl rfl ?_;walk_at"";refine Ll (k:=k+3) hT W.C O1 (by omega) (by omega) (λz=>hn z _ (Ex.refl g)) λe _ n x g' ev hp F' C'=>?_;obtain⟨rfl,rfl⟩:=key n x ev hp;exact h e g' _ cl F' (.inl rfl) C' rfl
 ·refine call_of hT.oV rfl ?_;dsimp[tR,b5,List.replicate];walk_at"";refine iV (by decide +kernel) ?_;walk_at"";refine je (by decide +kernel) ?_;walk_at"";refine m4 B.b rfl L1 ?_;walk_at"";refine sT (vg (f:=d5.d) B.c ?_);walk_at"";by_cases hv:iU (nums s.hs) v=true
  case neg =>
   have hv:=bQ.mpr hv;have e:l0 s.hs v c="NoCoin":=by unfold l0;rw[aK hv]
   rw[e] at hn;refine je (by rw[hv];rfl) ?_;walk_at"";exact hn (by decide +kernel) _ (Ex.refl _)
  refine iV (by rw[hv];rfl) ?_;obtain⟨n,x,rfl,hp⟩:=O9 hv;walk_at"";refine Ep (k:=k+8) (d:=g1.length) hT.td.h8 hT.td.uF λg2 G2 _=>?_;have e2:=Ex.Cn G2;have B2:=B.at e2;walk_at"";by_cases hc:j7 c=true
  case neg =>
   have hc:=bQ.mpr hc;have e:l0 s.hs n c="BadCoin":=by unfold l0;rw[aD (by rw[hv];decide),aK hc]
   rw[e] at hn;refine je (by rw[hc];rfl) ?_;walk_at"";exact hn (by decide +kernel) _ e2
  refine iV (by rw[hc];rfl) ?_;have e:l0 s.hs n c="":=by unfold l0;rw[aD (by rw[hv];decide),aD (by rw[hc];decide)]
  obtain⟨rfl,rfl⟩:=key n x rfl hp;walk_at"";refine m4 B2.b rfl L1 ?_;walk_at"";refine m4 B2.c rfl (n8 (f:=d5.d) O1.inc hp) ?_;walk_at"";refine m4 B2.b rfl L1 ?_;walk_at"";refine tm B2.c rfl (by simp[fM];omega) ?_;rw[Gj (aC.mpr ⟨_,hp,rfl⟩)];walk_at"";exact h e _ _ ((Ex.fl e2).set (.inr (.inl rfl)) _) ⟨d0 B2.b (by omega),get_set B2.c,d0 B2.f (by omega)⟩ rfl
theorem Yd(hT:TE T)(W:Wd g d m hd cl q qc qf s)(hf:s.fs.length<=50):Step T k g m hd cl q qc qf s lW (.tup [.str "out",.int v]):=by
 have ad:=W.A.h;have O1:=W.K.K;obtain⟨e,an,s',ok,K',l',uo,no,key⟩:∃(e:Str) (an:jA) (s':Sd),an.ok/\(e=""->kH s')/\s'.lf<=s.lf+1/\lW e/\(iU (nums s.hs) v=false->e="NoCoin")/\∀n x,v=(n:Nat)->(n,x)∈s.hs->e=""/\an=.val x.d/\s'=⟨s.lc,s.lf,Q8 s.hs n,s.fs.filter (C5 v)⟩:=by
  by_cases hv:iU (nums s.hs) v=true
  ·obtain⟨n,x,rfl,hp⟩:=O9 hv;refine⟨"",.val x.d,⟨s.lc,s.lf,Q8 s.hs n,s.fs.filter (C5 (n:Nat))⟩,λ_=>S7 (O1.good _ hp),λ_=>W.K.sub iM iM,by simp,.inr (.inr (.inr rfl)),λz=>(by rw[hv] at z;cases z),λn' x' e fz=>?_⟩;obtain⟨rfl,e2⟩:=uniq (f:=d5.d) O1.inc hp fz e;exact⟨rfl,by rw[e2],rfl⟩
  ·exact⟨"NoCoin",.val .bc,s,λ_=>.bc,λz=>absurd z (by decide +kernel),by omega,.inr (.inr (.inl rfl)),λ_=>rfl,λn x e hp=>absurd (V3.mpr ⟨n,aC.mpr ⟨_,hp,rfl⟩,e⟩) hv⟩
 refine⟨e,an,s',ok,K',l',uo,λQ E hn h=>?_,λg1 F B Q E hn h=>?_⟩
 ·refine call_of hT.oU rfl ?_;dsimp[K4,b5,List.replicate];walk_at""
  iterate 2 (refine iV (by decide +kernel) ?_;walk_at"")
  refine je (by decide +kernel) ?_;walk_at"";refine o6 W.C.o rfl rfl ?_;walk_at"";refine Pl (k:=k+6) hT W.C O1 W.K.inc (by omega) (by omega) (by omega) (λz=>?_) λn x g' ev hp F' C'=>?_
  ·obtain rfl:=no z;exact hn (by decide +kernel) _ (Ex.refl g)
  ·obtain⟨rfl,rfl,rfl⟩:=key n x ev hp;exact h rfl g' _ g.length F' (.inr (aj _)) C' rfl
 ·refine call_of hT.oV rfl ?_;dsimp[tR,b5,List.replicate];walk_at""
  iterate 2 (refine iV (by decide +kernel) ?_;walk_at"")
  refine je (by decide +kernel) ?_;walk_at"";refine SD (k:=k+9) hT B O1 W.K.inc hf (by omega) (by omega) (by omega) (λz=>?_) λn x g' ev hp F' B'=>?_
  ·obtain rfl:=no z;exact hn (by decide +kernel) _ (Ex.refl g1)
  ·obtain⟨rfl,rfl,rfl⟩:=key n x ev hp;exact h rfl g' _ F' B' rfl
end
section
variable{T:Nat->Option aJ}{d:Nat}{c:Nat}
theorem Vd(ha:g[a]?=some (.lst (fs.map λf=>.tup [.int (f.1:Nat),.int f.2.1,.int f.2.2])))(hb:g[b]?=some (.lst (fs.map λf=>.tup [.int (f.1:Nat),.int f.2.1,.int f.2.2])))(hz:fs.length<=1000):k8 g 2 (.ref a) (.ref b):=by
 refine .lst ha hb rfl (λi x y hx hy=>?_) (by simpa using hz);rw[hx] at hy;cases hy;rw[aF,ae] at hx;obtain⟨f,_,rfl⟩:=hx;exact zp (n:=0) [(f.1:Int),f.2.1,f.2.2] (by simp)
theorem EJ(hT:TE T)(C:iq g m hd cl lc lf hs fs)(B:jS g q qc qf gv lr hs fs)(O1:kU hs)(inc:gU (nums fs))(hf:fs.length<=50)(h:∀g',Ex g g'->Q (.bl true) g'):a8 T (k+6) 207 [.ref m,.ref q] g Q E:=by
 have hz:=O1.len;have nl:=L5 hs;refine call_of hT.xX rfl ?_;dsimp[Y0,b5,List.replicate];walk_at"";refine m4 B.b rfl L1 ?_;walk_at"";refine sZ B.c (by simp[fM];omega) ?_;rw[zm];walk_at"";refine F5 b8 O1.inc (by omega) ?_;have e1:=(Ex.snoc g (O.lst (c7 (nums hs)))).trans (Ex.snoc _ (O.lst (c7 (nums hs))));have s1:=b8 (g:=g++[O.lst (c7 (nums hs))]) (o:=O.lst (c7 (nums hs)));generalize (g++[O.lst (c7 (nums hs))]).length=sr at *;generalize (g++[O.lst (c7 (nums hs))])++[_]=g1 at *;have C1:=C.at e1;have B1:=B.at e1;walk_at"";refine o6 C1.o rfl rfl ?_;walk_at"";refine X9 (k:=k+4) hT.tc C1 O1.inc (by omega) ?_;walk_at"";have e2:=Ex.snoc g1 (O.lst (c7 (nums hs)));refine J1 hT.h6 hT.h7 1 (k:=k+2) (DX b8 (e2.at s1) (by omega)) λg3 e3=>?_;have sC:=e2.trans e3;have C3:=C1.at sC;have B3:=B1.at sC;walk_at"";refine o6 C3.o rfl rfl ?_;walk_at"";refine R6 (k:=k+3) hT.tc C3 O1.inc (by omega) λg4 r4 e4 _ xh=>?_;walk_at"";refine EK (k:=k+4) hT.td (B3.at e4) O1.inc (by omega) λg5 r5 e5 _ Ie=>?_;walk_at"";refine J1 hT.h6 hT.h7 3 (k:=k) (Vc O1 (e5.at xh) Ie) λg6 e6=>?_;have uN:=sC.trans (e4.trans (e5.trans e6));have C6:=C1.at uN;have B6:=B1.at uN;have s6:=uN.at s1;walk_at"";refine tH (α:=Nat×d5) (b9 T _) (OU (b9 T _) (b0 s6) (λQ q=>w_var rfl q) _ ?_);refine⟨hs,λp=>.int (p.1:Nat),λZ=>∃z1 z2,Z=[some (.ref q),some (.ref m),z1,z2],λ_=>true,λ_=>.bl true,λg' e=>Q7 (b0 ?_),by omega,⟨none,none,rfl⟩,λp Z g' hp e sh=>?_,λg7 e7=>?_⟩
 ·rw[show hs.map (λp=>D.int (p.1:Nat))=c7 (nums hs) by simp[c7,nums]];exact e.at s6
 ·obtain⟨z1,z2,rfl⟩:=sh;refine A6 (R8 ⟨rfl,e,jC ?_⟩);have C7:=C6.at e;have B7:=B6.at e;walk_at"";refine o6 C7.o rfl rfl ?_;walk_at"";refine WK (k:=k+2) hT.tc C7 O1.inc hp ?_;walk_at"";refine m4 B7.b rfl L1 ?_;walk_at"";refine m4 B7.c rfl (n8 (f:=d5.d) O1.inc hp) ?_;walk_at"";refine J1 hT.h6 hT.h7 2 (k:=k+1) (S7 (O1.good p hp)) λg8 e8=>?_;exact⟨rfl,e.trans e8,_,_,rfl⟩
 rw[N1];refine Cz (v:=true) (b0 b8) ?_ ?_
 ·rw[show hs.map (λ_=>D.bl true)=(hs.map λ_=>true).map D.bl by rw[cB];rfl,DI];simp
 have e8:=uN.trans (e7.trans (Ex.snoc g7 (O.lst (hs.map λ_=>D.bl true))));generalize g7++[_]=g8 at *;have C8:=C1.at e8;have B8:=B1.at e8;walk_at"";refine o6 C8.o rfl rfl ?_;walk_at"";refine WO (k:=k+3) hT.tc C8 inc hf λg9 r9 e9 _ Ic=>?_;have B9:=B8.at e9;walk_at"";refine tH (α:=Nat×Int×Int) (b9 T _) (oG (b9 T _) ?_);walk_at"";refine m4 B9.b rfl sQ ?_;walk_at"";refine sZ B9.f (by simp[jv];omega) ?_;rw[Ez];walk_at"";refine F5 b8 inc (by rw[L5];exact hf) ?_;have BU:=(Ex.snoc g9 (O.lst (c7 (nums fs)))).trans (Ex.snoc _ (O.lst (c7 (nums fs))));refine⟨_,_,rfl,b0 b8,fs,λp=>.int (p.1:Nat),λZ=>∃z1 z2,Z=[some (.ref q),z1,z2],λ_=>true,λf=>.tup [.int (f.1:Nat),.int f.2.1,.int f.2.2],λg' e=>Q7 (b0 ?_),by omega,⟨none,none,rfl⟩,λp Z g' hp e sh=>?_,λJy JE=>?_⟩
 ·rw[show fs.map (λp=>D.int (p.1:Nat))=c7 (nums fs) by simp[c7,nums]];exact e.at b8
 ·obtain⟨z1,z2,rfl⟩:=sh;refine A6 (R8 ⟨rfl,e,jC ?_⟩);have GR:=(B9.at BU).at e;walk_at"";refine m4 GR.b rfl sQ ?_;walk_at"";refine m4 GR.f rfl (n8 (f:=pD) inc hp) ?_;walk_at"";refine Qy (by simp) ?_;exact⟨rfl,e,_,_,rfl⟩
 rw[N1];have BS:=(BU.trans JE).trans (Ex.snoc Jy (O.lst (fs.map λf=>.tup [.int (f.1:Nat),.int f.2.1,.int f.2.2])));walk_at"";refine J1 hT.h6 hT.h7 2 (k:=k+1) (Vd (BS.at Ic) b8 (by omega)) λZk sC=>?_;exact h _ (((e1.trans e8).trans e9).trans (BS.trans sC))
theorem WU(h4:T 4=some J9){z:Option D}(D0:i8 g d)(h:∀(ns:List Int) g',ns.length<=8->i8 g' d->Gr d g g'->Q (.tup (ns.map .int)) g') :
  aP (a8 T (k+1)) (.prim .tuple (.cons (.comp [0,2] 4 (.one 3) (.fq (.lit (.int 8))) (.gp (.dE (.prim (.cmp .In) (.cons (.var 3) (.cons (.var 1) .nil)))) (.dE (.prim (.cmp .Eq) (.cons (.call 4 (.cons (.var 0) (.cons (.lit (.int 9)) .nil))) (.cons (.lit (.int 0)) .nil))))) (.var 3)) .nil)) [some (.ref d),z,some (.tup (ms.map .int))] g Q E:=by
 walk_at"";refine tM (b9 T _) (Am (b9 T _) ?_);walk_at"";refine⟨by decide,by decide,w6 0 8,λi ys Z g'=>i8 g' d/\Gr d g g'/\(∃ns:List Int,ys=ns.map .int)/\ys.length<=i/\∃z2 z3,Z=[some (.ref d),some (.tup (ms.map .int)),z2,z3],by decide,λi ys Z g' p=>⟨V2,p.2.2.2.1⟩,⟨D0,Gr.refl _ _,⟨[],rfl⟩,by simp,none,none,rfl⟩,λi y ys Z g' hy p=>?_,λys Z g5 p=>?_⟩
 ·obtain⟨D5,G5,⟨ns,rfl⟩,hl,z2,z3,rfl⟩:=p;obtain⟨_,rfl⟩:=vG hy;have yes:∀g6,i8 g6 d->Gr d g g6->aP (a8 T (k+1)) (.var 3) [some (.ref d),some (.tup (ms.map .int)),z2,some (.int (0+(i:Int)))] g6 (λy g4=>i8 g4 d/\Gr d g g4/\(∃l:List Int,ns.map D.int++[y]=l.map .int)/\(ns.map D.int++[y]).length<=i+1/\∃Hb Ha,[some (D.ref d),some (.tup (ms.map .int)),z2,some (.int (0+(i:Int)))]=[some (.ref d),some (.tup (ms.map .int)),Hb,Ha]) iZ:=λg6 D6 G6=>by
   walk_at"";exact⟨D6,G6,⟨ns++[0+(i:Int)],by simp⟩,by simp at hl ⊢;omega,_,_,rfl⟩
  refine A6 ?_
  try show dq _ _ _ _ _ _
  walk_at"";refine Ak (GF (ms:=ms) rfl ?_);walk_at"";refine if2 (λ_=>?_) (λ_=>?_)
  ·refine jC ?_;exact yes g' D5 G5
  walk_at"";refine i9 (k:=k) h4 D5 (by decide) (by decide) λr g6 _ _ D6 G6=>?_;walk_at"";refine if2 (λ_=>?_) (λ_=>?_)
  ·exact yes g6 D6 (G5.trans G6)
  ·exact⟨D6,G5.trans G6,⟨ns,rfl⟩,by omega,_,_,rfl⟩
 obtain⟨D5,G5,⟨ns,rfl⟩,hl,z2,z3,rfl⟩:=p;refine Sq (b0 b8) ?_;exact h ns _ (by simpa[w6] using hl) ((Ex.snoc _ _).draw D5) (G5.trans ((Ex.snoc _ _).gr d))
theorem Wf(hT:TE T)(B:jS g q qc qf gv lr hs fs)(O1:kU hs)(D0:i8 g d)(h:∀(c:d5) g',CB c->i8 g' d->Gr d g g'->Q c.d g'):a8 T (k+3) 206 [.ref d,.ref q] g Q E:=by
 have h4:=hT.td.h4;have hz:=O1.len;have dl:=D0.lt;refine call_of hT.xY rfl ?_;dsimp[zd,b5,List.replicate];walk_at"";refine EK (k:=k+1) hT.td B O1.inc (by omega) λg1 r1 e1 l1 Ig=>?_;have D1:=e1.draw D0;have G1:=e1.gr d;have lc:(E5 hs).length<=9:=by simpa[E5] using hz
 have any:∀g2,i8 g2 d->Gr d g g2->a8 T (k+2) 22 [.ref d] g2 Q E:=λg2 D2 G2=>VH (k:=k) h4 hT.xT D2 λc g3 hc D3 G3=>h c g3 ⟨hc.l8,hc.u8⟩ D3 (G2.trans G3);walk_at"";rw[ay];refine if2 (λ_=>?_) (λc0=>?_)
 ·refine je rfl ?_;walk_at"";exact any g1 D1 G1
 walk_at"";refine i9 (k:=k+1) h4 D1 (by decide) (by decide) λr g2 _ _ D2 G2=>?_;have GP:=G1.trans G2;walk_at"";refine if2 (λ_=>?_) (λ_=>?_)
 ·walk_at"";exact any g2 D2 GP
 have rD:=G2.at (by omega) Ig;walk_at"";rw[ay];refine i9 (k:=k+1) h4 D2 (by omega) (by omega) λj1 g3 j0 jl D3 G3=>?_;have Bp:=G3.at (by omega) rD;obtain⟨y,hy,hm⟩:=A4 (l:=(E5 hs).map d5.d) j0 (by simpa using jl);obtain⟨c1,BD,rfl⟩:=aC.mp hm;refine E2 (b0 Bp) hy ?_;walk_at"";rw[ay];refine i9 (k:=k+1) h4 D3 (by omega) (by omega) λj2 g4 HV HU D4 G4=>?_;have xh:=G4.at (by omega) Bp;obtain⟨y,wW,nH⟩:=A4 (l:=(E5 hs).map d5.d) HV (by simpa using HU);obtain⟨c2,lP,rfl⟩:=aC.mp nH;refine E2 (b0 xh) wW ?_;have Yq:=GP.trans (G3.trans G4);walk_at"";refine tM (b9 T _) (Bj (b9 T _) ?_);walk_at"";refine nW (d:=.tup (c1.lm.map .int)) rfl ?_;walk_at"";refine nW (d:=.tup (c2.um.map .int)) rfl ?_;walk_at"";refine⟨_,rfl,[.tup (c1.lm.map .int),.tup (c2.um.map .int)],λi ys Z g'=>i8 g' d/\Gr d g g'/\(∃L:List (List Int),ys=L.map (λl=>.tup (l.map .int))/\L.length=i/\∀l∈L,l.length<=8)/\∃z1 z2,Z=[some (.ref d),z1,z2],by simp,λi ys Z g' p=>⟨V2,?_⟩,⟨D4,Yq,⟨[],rfl,rfl,λl hl=>by cases hl⟩,none,none,rfl⟩,λi y ys Z g' hy p=>?_,λys Z g5 p=>?_⟩
 ·obtain⟨_,_,⟨L,rfl,hl,_⟩,_⟩:=p;rw[ay];omega
 ·obtain⟨D5,G5,⟨L,rfl,hl,h8⟩,z1,z2,rfl⟩:=p;obtain⟨ms,rfl⟩:∃ms:List Int,y=.tup (ms.map .int):=by
   rcases aw.mp (bH hy) with z|z
   ·exact⟨_,z⟩
   ·exact⟨_,dX.mp z⟩
  refine A6 (R8 (jC ?_));refine WU (k:=k+1) h4 D5 λns g6 hn D6 G6=>?_;exact⟨D6,G5.trans G6,⟨L++[ns],by simp,by simp[hl],λl hl=>(dS.mp hl).elim (h8 l) λz=>by rw[dX.mp z];exact hn⟩,_,_,rfl⟩
 obtain⟨D5,G5,⟨L,rfl,hl,h8⟩,z1,z2,rfl⟩:=p;obtain⟨n1,n2,rfl⟩:∃n1 n2,L=[n1,n2]:=by
  match L,hl with
  |[a,b],_=>exact⟨a,b,rfl⟩
 have e6:=Ex.snoc g5 (O.lst ([n1,n2].map λl=>D.tup (l.map .int)));have s6:=b8 (g:=g5) (o:=O.lst ([n1,n2].map λl=>D.tup (l.map .int)));have D6:=e6.draw D5;have G6:=G5.trans (e6.gr d);have l6:g5.length≠d:=by have:=G5.len;omega
 generalize g5++[_]=g6 at *;generalize g5.length=u6 at *;walk_at"";refine nW (d:=.int c1.lo) rfl ?_;walk_at"";refine nW (d:=.int c2.up) rfl ?_;walk_at"";refine nW (d:=.int c1.yr) rfl ?_;walk_at"";have e7:=Ex.snoc g6 (O.lst [D.int 0,D.int c1.yr,D.int 1410]);have s7:=b8 (g:=g6) (o:=O.lst [D.int 0,D.int c1.yr,D.int 1410]);have l7:g6.length≠d:=by have:=G6.len;omega
 refine i9 (k:=k+1) h4 (e7.draw D6) (by decide) (by decide) λj3 g8 t0 t1 D8 G8=>?_;obtain⟨y,rn,pT⟩:=A4 (l:=[0,c1.yr,1410]) t0 (by simpa using t1);refine E2 (d:=.int y) (b0 (G8.at l7 s7)) ?_ ?_
 ·have:j3=0\/j3=1\/j3=2:=by omega
  rcases this with rfl|rfl|rfl<;>cases rn<;>rfl
 walk_at"";exact h ⟨c1.lo,n1,c2.up,n2,y⟩ g8 ⟨h8 n1 (by simp),h8 n2 (by simp)⟩ D8 (G6.trans ((e7.gr d).trans G8))
theorem Mv(hT:TD T)(h:Q (.ref g.length) (g++[.bN (H9 (g.length+1) (g.length+2) 0 0),.bN [],.bN []])):a8 T (k+1) 195 [] g Q E:=by
 refine call_of hT.yc rfl ?_;dsimp[An,b5,List.replicate];walk_at"";refine Su ?_;walk_at"";refine⟨_,rfl,by simp,by simp,?_⟩;have:((g++[O.bN []]++[O.bN []])++[O.bN []]).set g.length (.bN [(.inr "coins",.ref (g++[O.bN []]).length),(.inr "facts",.ref ((g++[O.bN []])++[O.bN []]).length),(.inr "given",.int 0),(.inr "learnt",.int 0)])=g++[.bN (H9 (g.length+1) (g.length+2) 0 0),.bN [],.bN []]:=by
  simp[H9,List.set_append]
 exact this▸h
theorem Mw(hT:TC T)(h:Q .bc (g++[fN (g.length+1) (g.length+2) 0 0,.bN [],.bN []])):a8 T (k+1) 208 [.ref g.length] (g++[.ins "Cabinet" []]) Q E:=by
 refine call_of hT.xW rfl ?_;dsimp[Q3,b5,List.replicate];have s0:=b8 (g:=g) (o:=O.ins "Cabinet" []);walk_at"";refine tu (vB s0) (by simp) (by simp) ?_;rw[show ∀x:D,u3 "held" x []=([("held",x)]:List (Str×D)) from λ_=>rfl];have s1:=get_set (vB (o':=O.bN []) s0) (o':=O.ins "Cabinet" [("held",.ref (g++[O.ins "Cabinet" []]).length)]);walk_at"";refine tu (vB s1) (by simp) (by simp) ?_;rw[show ∀x y:D,u3 "claims" x [("held",y)]=([("held",y),("claims",x)]:List (Str×D)) from λ_ _=>rfl];generalize hx:D.ref (((g++[O.ins "Cabinet" []]++[O.bN []]).set g.length (O.ins "Cabinet" [("held",.ref (g++[O.ins "Cabinet" []]).length)])).length)=x2 at *;have s2:=get_set (vB (o':=O.bN []) s1) (o':=O.ins "Cabinet" [("held",.ref (g++[O.ins "Cabinet" []]).length),("claims",x2)]);walk_at"";refine tu s2 (by simp) (by simp) ?_;rw[show ∀x y z:D,u3 "last_coin" x [("held",y),("claims",z)]=([("held",y),("claims",z),("last_coin",x)]:List (Str×D)) from λ_ _ _=>rfl];have s3:=get_set s2 (o':=O.ins "Cabinet" [("held",.ref (g++[O.ins "Cabinet" []]).length),("claims",x2),("last_coin",.int 0)]);walk_at"";refine tu s3 (by simp) (by simp) ?_;rw[show ∀x y z u:D,u3 "last_fact" x [("held",y),("claims",z),("last_coin",u)]=([("held",y),("claims",z),("last_coin",u),("last_fact",x)]:List (Str×D)) from λ_ _ _ _=>rfl];walk_at"";subst hx;refine cast (du (Q .bc) ?_) h;simp[List.set_append,fN]
end
def Rp:aJ:=⟨1,1,(.seq (.iO (.dE (.lit (.bl true))) (.seq .pass .pass)) .pass)⟩
def Xb:aJ:=⟨3,3,(.seq (.ret (.de (bC (.cmp .NotEq) (.call 91 (cZ aA aM)) aA) (bC (.cmp .Is) (.call 101 (dD ao aA aM)) (.lit .bc)))) .pass)⟩
def Vh:aJ:=⟨2,2,(.seq (.ret (.comp [0,1] 4 (.one 3) (.fq (bV (.fld "size") ao)) (.dE (.call 115 (dD ao aA bf))) bf)) .pass)⟩
def Th:aJ:=⟨1,5,(.seq (.set 1 (.prim (.jW 0) .nil)) (.seq (.set 2 (.prim .lst .nil)) (.seq (.eA (.one 3) (.fq (bC (.bin .Add) (bV (.fld "full") ao) (aO 1))) (.seq (.ifs (cw .In bf aA) (.seq (.expr (.dQ .append aM (cq bf))) (.seq (.eA (.one 4) (.eL (.call 116 (cZ ao bf))) (.seq (.expr (.dQ .kq aA (cq (.call 91 (cZ bf cA))))) .pass)) .pass)) .pass) .pass)) (.seq (.ret aM) .pass))))⟩
def MV:aJ:=⟨1,3,(.seq (.set 1 (.prim .N7 .nil)) (.seq (.eA (.one 2) (.mR (.call 117 (cq ao))) (.seq (.ifs (cw .Eq aM (bV (.fld "full") ao)) (.seq (.cF aA aM (aO 1)) .pass) (.seq (.cF aA aM (bV .sum (.comp [2,1] 4 (.one 3) (.eL (.call 116 (cZ ao aM))) .no (bh aA (.call 91 (cZ ao bf)))))) .pass)) .pass)) (.seq (.ret aA) .pass)))⟩
def MR:aJ:=⟨4,7,(.seq (.set 4 (.call 116 (cZ ao aM))) (.seq (.set 5 bf) (.seq (.set 6 (aO 0)) (.seq (.iO (cw .GtE dY (bh aA (.call 91 (cZ aM (bh cA eV))))) (.seq (.jx 5 .mS (bh aA (.call 91 (cZ aM (bh cA eV))))) (.seq (.jx 6 .iadd (aO 1)) .pass))) (.seq (.ret (bC .tup (bh cA eV) dY)) .pass)))))⟩
def Tg:aJ:=⟨3,7,(.seq (.set 3 (.prim .lst .nil)) (.seq (.set 4 (aO 0)) (.seq (.set 5 aM) (.seq (.iO (cw .NotEq cA (bV (.fld "full") ao)) (.seq (.kM (.many [6,5]) (.call 122 (nt ao aA cA dY))) (.seq (.expr (.dQ .append bf (cq eV))) (.seq (.set 4 (.call 91 (cZ cA eV))) .pass)))) (.seq (.ret bf) .pass)))))⟩
def VZ:aJ:=⟨1,2,(.seq (.set 1 (.call 121 (cq ao))) (.seq (.ifs (cw .Eq (bh aA (aO 0)) (aO 0)) (.seq (.ret (.lit .bc)) .pass) .pass) (.seq (.ret (.call 123 (dD ao aA (aO 0)))) .pass)))⟩
def V':aJ:=⟨3,3,(.seq (.ret (.call 124 (cq (.call 99 (dD ao aA aM))))) .pass)⟩
def Xc:aJ:=⟨3,3,(.seq (.ret (bh (.call 121 (cq (.call 99 (dD ao aA aM)))) (aO 0))) .pass)⟩
def Wa:aJ:=⟨1,2,(.seq (.set 1 (.call 117 (cq ao))) (.seq (.ifs (cw .Eq (bh aA (bV (.un .USub) (aO 1))) (bV (.fld "full") ao)) (.seq (.ret (.lit .bc)) .pass) .pass) (.seq (.ret aA) .pass)))⟩
def Xd:aJ:=⟨3,3,(.seq (.ret (.call 129 (cq (.call 99 (dD ao aA aM))))) .pass)⟩
def VY:aJ:=⟨3,3,(.seq (.ifs (cw .Eq aA (bT "coin")) (.seq (.expr (.call 83 (cZ ao aM))) .pass) (.seq (.expr (.call 75 (dD ao aA aM))) .pass)) .pass)⟩
def Ve:aJ:=⟨4,4,(.seq (.ifs (cw .NotIn aA (.lit (.tup [(.str "coin"),(.str "lower"),(.str "upper")]))) (.seq (.raise "BadSide" (cq (bT "asked about are coins, lower dies or upper dies"))) .pass) .pass) (.seq (.expr (.call 136 (dD ao aA aM))) (.seq (.expr (.call 136 (dD ao aA bf))) (.seq (.ifs (cw .Eq aM bf) (.seq (.raise "SameOne" (cq (bT "two unlike ones are asked about"))) .pass) .pass) .pass))))⟩
def Kn:aJ:=⟨6,10,(.seq (.expr (.call 98 (dD ao aA aM))) (.seq (.expr (.call 137 (nt ao bf cA dY))) (.seq (.set 6 (.make "Bounds" 113 (dD ao aA (bC (.bin .Add) aM (bV .lst (.prim .tup (dD bf cA dY))))))) (.seq (.set 7 (.make "Bounds" 113 (dD ao aA (bC (.bin .Add) aM (bV .lst (.prim .tup (dD bf dY cA))))))) (.seq (.set 8 (.call 124 (cq eV))) (.seq (.set 9 (.call 124 (cq gB))) (.seq (.ifs (.de (cw .Is jM (.lit .bc)) (cw .Is ku (.lit .bc))) (.seq (.raise "NoOrder" (cq (bT "there is no order"))) .pass) .pass) (.seq (.ifs (cw .Is ku (.lit .bc)) (.seq (.ret (bC .tup (bT "first") (.call 129 (cq gB)))) .pass) .pass) (.seq (.ifs (cw .Is jM (.lit .bc)) (.seq (.ret (bC .tup (bT "later") (.call 129 (cq eV)))) .pass) .pass) (.seq (.ret (.prim .tup (dD (bT "either") jM ku))) .pass))))))))))⟩
def MU:aJ:=⟨6,6,(.seq (.ret (bh (.call 138 (uH ao aA aM bf cA dY)) (aO 0))) .pass)⟩
def ze:aJ:=⟨1,1,(.seq (.ret (.de (bC .isin ao (.lit (.ty "list"))) (.de (bC (.cmp .Eq) (bV .len ao) (aO 1)) (bC (.cmp .Eq) (bh ao (aO 0)) (bT "refused"))))) .pass)⟩
def zZ:aJ:=⟨2,2,(.seq (.T7 (.seq (.ret (bC .lst (bT "") (.call 205 (cZ ao aA)))) .pass) [("BadCoin",(.prim .lst (.cons (.lit (.str "BadCoin")) (.cons (.lit .bc) .nil)))),("Full",(.prim .lst (.cons (.lit (.str "Full")) (.cons (.lit .bc) .nil)))),("NoCoin",(.prim .lst (.cons (.lit (.str "NoCoin")) (.cons (.lit .bc) .nil))))]) .pass)⟩
def zq:aJ:=⟨2,2,(.seq (.T7 (.seq (.ret (.bq "coin" [("Cabinet",222)] ao (cq aA))) .pass) [("NoCoin",(.prim .lst (.cons (.lit (.str "refused")) .nil)))]) .pass)⟩
def qe:aJ:=⟨1,10,(.seq (.set 1 (.call 3 (cq ao))) (.seq (.set 2 (.make "Cabinet" 208 .nil)) (.seq (.set 3 (.call 195 .nil)) (.seq (.eA (.one 4) (.fq (bC (.bin .Add) (aO 8) (.call 4 (cZ aA (aO 23))))) (.seq (.set 5 (bV .eK (bV .list (bh bf (bT "coins"))))) (.seq (.set 6 (.call 14 (cZ aA (.call 206 (cZ aA bf))))) (.seq (.set 7 (.call 37 (cZ aA dY))) (.seq (.set 8 (bh (.prim .lst (dD (bC .tup (bT "put") eV) (.prim .tup (dD (bT "right") gB eV)) (bC .tup (bT "out") gB))) (bC .max (aO 0) (bC (.bin .Sub) (.call 4 (cZ aA (aO 5))) (aO 2))))) (.seq (.ifs (.cG (.dE (.call 7 (cZ (.call 49 (cZ aM jM)) (bV .list (.call 204 (cZ bf jM))))))) (.seq (.ret (.lit (.bl false))) .pass) .pass) (.seq (.ifs (.cG (.dE (.call 207 (cZ aM bf)))) (.seq (.ret (.lit (.bl false))) .pass) .pass) (.seq (.eA (.one 9) (.eL (bC .lst (.bq "numbers" [("Cabinet",221)] aM .nil) (.bq "coins" [("Cabinet",223)] aM .nil))) (.seq (.expr (.dQ .clear ku .nil)) .pass)) (.seq (.ifs (.de (cw .NotIn gB (bh bf (bT "coins"))) (.cG (.dE (.call 44 (cq (.call 187 (cZ aM gB))))))) (.seq (.ret (.lit (.bl false))) .pass) .pass) .pass))))))))) (.seq (.ret (.call 207 (cZ aM bf))) .pass)))))⟩
def Tq:aJ:=⟨1,2,(.seq (.expr .no) (.seq (.ret (.comp [1] 5 (.many [2,3,4]) (.eL (.bq "facts" [("Cabinet",224)] ao .nil)) .no (.prim .tup (dD (bT "coin") (bh ao bf) (bh ao cA))))) .pass))⟩
def SR:aJ:=⟨2,4,(.seq (.set 2 (.call 125 (dD (.bq "coins" [("Cabinet",223)] ao .nil) aA (.bq "fact_rules" [("Cabinet",213)] ao .nil)))) (.seq (.ifs (cw .Is aM (.lit .bc)) (.seq (.ret (.lit .bc)) .pass) .pass) (.seq (.set 3 (.bq "numbers" [("Cabinet",221)] ao .nil)) (.seq (.ret (.comp [3] 3 (.one 2) (.eL aM) .no (bh ao aM))) .pass))))⟩
def Ww:aJ:=⟨2,2,(.seq (.ret (.call 126 (dD (.bq "coins" [("Cabinet",223)] ao .nil) aA (.bq "fact_rules" [("Cabinet",213)] ao .nil)))) .pass)⟩
def SS:aJ:=⟨2,2,(.seq (.ret (.call 132 (dD (.bq "coins" [("Cabinet",223)] ao .nil) aA (.bq "fact_rules" [("Cabinet",213)] ao .nil)))) .pass)⟩
def Wx:aJ:=⟨4,5,(.seq (.expr (.call 42 (cq aA))) (.seq (.expr (.bq "check_pair" [("Cabinet",210)] ao (cZ aM bf))) (.seq (.set 4 (.bq "numbers" [("Cabinet",221)] ao .nil)) (.seq (.ret (.call 139 (uH (.bq "coins" [("Cabinet",223)] ao .nil) aA (.bq "fact_rules" [("Cabinet",213)] ao .nil) (bT "coin") (.dQ .index cA (cq aM)) (.dQ .index cA (cq bf))))) .pass))))⟩
def Tf:aJ:=⟨1,1,(.seq (.expr (.call 41 (cq (aO 0)))) .pass)⟩
def Wy:aJ:=⟨1,1,(.seq (.expr (.call 41 (cq (aO 1)))) .pass)⟩
structure tU(T:Nat->Option aJ):Prop where
 te:TE T
 h3:T 3=some uX
 IZ:T 44=some ze
 IY:T 49=some zZ
 yd:T 187=some zq
 Jq:T 11=some qe
section
variable{T:Nat->Option aJ}{d:Nat}
theorem Wd.gr(W:Wd g d m hd cl q qc qf s)(D':i8 g' d)(G':Gr d g g'):Wd g' d m hd cl q qc qf s:=by
 have:=W.A.h;exact⟨D',⟨G'.at (by omega) W.C.o,G'.at (by omega) W.C.h,G'.at (by omega) W.C.c⟩,⟨G'.at (by omega) W.B.b,G'.at (by omega) W.B.c,G'.at (by omega) W.B.f⟩,W.K,W.A⟩
theorem Wd.at(W:Wd g d m hd cl q qc qf s)(e:Ex g g'):Wd g' d m hd cl q qc qf s:=W.gr (e.draw W.dr) (e.gr d)
theorem Wd.set(W:Wd g d m hd cl q qc qf s){r:Nat}(h:d<r/\r≠m/\r≠hd/\r≠cl/\r≠q/\r≠qc/\r≠qf)(o:O):Wd (g.set r o) d m hd cl q qc qf s :=
 ⟨W.dr.PN h.1,⟨d0 W.C.o (by omega),d0 W.C.h (by omega),d0 W.C.c (by omega)⟩,⟨d0 W.B.b (by omega),d0 W.B.c (by omega),d0 W.B.f (by omega)⟩,W.K,W.A⟩
theorem Vs(hT:tU T)(hi:g[i]?=some (.lst [.str "refused"]))(h:Q (.bl true) g):a8 T (k+1) 44 [.ref i] g Q E:=by
 refine call_of hT.IZ rfl ?_;dsimp[ze,b5,List.replicate];walk_at"";refine fL (c:="list") (b:=true) (by decide) (show(match g[i]? with|some (.lst _)=>some ("list"=="list")|_=>none)=some true by rw[hi];rfl) ?_;walk_at"";refine je rfl ?_;walk_at"";exact h
theorem DF(hT:tU T){dd:D}{e:Str}{an:jA}{s':Sd}(ht:lW e)(hc:Dr T k g m hd cl dd e an s')(hn:e≠""->∀g',Ex g g'->Q (.ref g'.length) (g'++[.lst [.str e,.bc]]))(h:e=""->∀g' y iz,Fl m hd cl g g'->(iz=cl\/g.length<=iz)->iq g' m hd iz s'.lc s'.lf s'.hs s'.fs->jA.at g.length g' y an->Q (.ref g'.length) (g'++[.lst [.str "",y]])):a8 T (k+11) 49 [.ref m,dd] g Q E:=by
 refine call_of hT.IY rfl ?_;dsimp[zZ,b5,List.replicate];walk_at"";refine hc _ _ (λz g' e'=>?_) λz g' y iz F gN C' A'=>tj (by simp) (h z g' y iz F gN C' A');have hn:=hn z g' e';have one:∀{e:Str},Q (.ref g'.length) (g'++[.lst [.str e,.bc]])->aP (a8 T (k+10)) (.prim .lst (.cons (.lit (.str e)) (.cons (.lit .bc) .nil))) [none,none] g' Q iZ:=λh=>FJ (tN (w_lit (tN (w_lit (zQ (tj (by simp) h))))));rcases ht with rfl|rfl|rfl|rfl
 ·exact uW rfl (one hn)
 ·exact zX (by decide +kernel) (uW rfl (one hn))
 ·exact zX (by decide +kernel) (zX (by decide +kernel) (uW rfl (one hn)))
 ·exact absurd rfl z
theorem GI{r r2:Nat}{e:Str}{y2:D}(h1:g[r]?=some (.lst [.str e,y]))(h2:g[r2]?=some (.lst [.str e,y2]))(hy:k8 g 2 y y2):k8 g 3 (.ref r) (.ref r2):=by
 refine .lst h1 h2 rfl (λi p p' hp fz=>?_) (by simp)
 match i,hp,fz with
 |0,hp,fz=>cases hp;cases fz;exact .str _
 |1,hp,fz=>cases hp;cases fz;exact hy
 |i+2,hp,_=>simp at hp
def tL:MS:=match qe.body with
 |.seq _ (.seq _ (.seq _ (.seq (.eA _ _ (.seq _ (.seq _ (.seq _ (.seq _ b))))) _)))=>b
 |x=>x
def yJ:MS:=match tL with
 |.seq _ b=>b
 |x=>x
theorem WC(hT:tU T)(W:Wd g d m hd cl q qc qf s)(hf:s.lf<=48){z0 z1 z4 z5 z6 z8 z9:Option D}(h:∀g' z9,Wd g' d m hd cl q qc qf s->N.nx [z0,z1,some (.ref m),some (.ref q),z4,z5,z6,some (.int v),z8,z9] g') :
  wpS (a8 T (k+12)) yJ N [z0,z1,some (.ref m),some (.ref q),z4,z5,z6,some (.int v),z8,z9] g E:=by
 have ad:=W.A.h;have fl:=W.K.fl;have hz:=W.K.K.len;have nl:=L5 s.hs;dsimp[yJ,tL,qe];walk_at"";refine EJ (k:=k+6) hT.te W.C W.B W.K.K W.K.inc (by omega) λg1 e1=>?_;have W1:=W.at e1;walk_at"";refine va (b9 T _) (oG (b9 T _) ?_);walk_at"";refine o6 W1.C.o rfl rfl ?_;walk_at"";refine X9 (k:=k+11) hT.te.tc W1.C W1.K.K.inc (by omega) ?_;have e2:=Ex.snoc g1 (O.lst (c7 (nums s.hs)));have s2:=b8 (g:=g1) (o:=O.lst (c7 (nums s.hs)));have lq:=m7 W1.B.f;have lc:=m7 W1.C.c;have lm:=m7 W1.C.h;have W2:=W1.at e2;have l2:=e2.len;generalize g1++[_]=g2 at *;walk_at"";refine o6 W2.C.o rfl rfl ?_;walk_at"";refine R6 (k:=k+10) hT.te.tc W2.C W2.K.K.inc (by omega) λg3 r3 e3 l3 s3=>?_;have W3:=W2.at e3;have AU:=e3.at s2;walk_at"";have e4:=Ex.snoc g3 (O.lst [D.ref g1.length,D.ref r3]);have s4:=b8 (g:=g3) (o:=O.lst [D.ref g1.length,D.ref r3]);have l4:=m7 s3;have l5:=m7 AU;refine⟨_,_,rfl,b0 s4,[.ref g1.length,.ref r3],λi Z g'=>(∃z9,Z=[z0,z1,some (.ref m),some (.ref q),z4,z5,z6,some (.int v),z8,z9])/\Wd g' d m hd cl q qc qf s/\g'[g3.length]?=some (.lst [.ref g1.length,.ref r3])/\(∃l,g'[g1.length]?=some (.lst l))/\∃l,g'[r3]?=some (.lst l),λi Z g' p=>Q7 (b0 p.2.2.1),⟨⟨_,rfl⟩,W3.at e4,s4,⟨_,e4.at AU⟩,_,e4.at s3⟩,λi y Z g' hy p=>?_,λZ g' p=>?_⟩
 ·obtain⟨⟨z9,rfl⟩,W5,p1,⟨la,p2⟩,lb,p3⟩:=p;have fin:∀r l,g1.length<=r->r<g3.length->g'[r]?=some (.lst l)->(∃GZ,[z0,z1,some (.ref m),some (.ref q),z4,z5,z6,some (.int v),z8,some (.ref r)]=[z0,z1,some (.ref m),some (.ref q),z4,z5,z6,some (.int v),z8,GZ])/\Wd (g'.set r (.lst [])) d m hd cl q qc qf s/\(g'.set r (.lst []))[g3.length]?=some (.lst [.ref g1.length,.ref r3])/\(∃l,(g'.set r (.lst []))[g1.length]?=some (.lst l))/\∃l,(g'.set r (.lst []))[r3]?=some (.lst l):=λr l h1 h2 pr=>by
   have ok:∀{j:Nat} {l2:List D},g'[j]?=some (.lst l2)->∃l,(g'.set r (.lst []))[j]?=some (.lst l):=λ{j l2} e=>by
    by_cases hj:r=j
    ·subst hj;exact⟨_,get_set e⟩
    ·exact⟨_,d0 e hj⟩
   exact⟨⟨_,rfl⟩,W5.set (by omega) _,d0 p1 (by omega),ok p2,ok p3⟩
  have yy:y=.ref g1.length\/y=.ref r3:=by
   rcases aw.mp (bH hy) with z|z
   ·exact .inl z
   ·exact .inr (dX.mp z)
  refine A6 ?_
  try show wpS _ _ _ _ _ _
  rcases yy with rfl|rfl
  ·walk_at"";refine⟨GK p2,?_⟩;walk_at"";exact FY p2 (fin _ _ (aj _) l5 p2)
  ·walk_at"";refine⟨GK p3,?_⟩;walk_at"";exact FY p3 (fin _ _ (by omega) l4 p3)
 obtain⟨⟨z9,rfl⟩,W5,_⟩:=p
 try show wpS _ _ _ _ _ _
 walk_at"";refine m4 W5.B.b rfl L1 ?_;walk_at"";refine sT (vg (f:=d5.d) W5.B.c ?_);walk_at"";by_cases hv:iU (nums s.hs) v=true
 ·refine iV (by rw[hv];rfl) ?_;refine Y5 ?_;walk_at"";exact h _ _ W5
 ·have hv:=bQ.mpr hv;refine je (by rw[hv];rfl) ?_;walk_at"";refine call_of hT.yd rfl ?_;dsimp[zq,b5,List.replicate];walk_at"";refine o6 W5.C.o rfl rfl ?_;walk_at"";refine CK (k:=k+8) hT.te.tc W5.C W5.K.K.inc (λ_=>uW rfl ?_) λn x e hp=>absurd (show iU (nums s.hs) v=true from V3.mpr ⟨n,aC.mpr ⟨_,hp,rfl⟩,e⟩) (by rw[hv];decide);walk_at"";refine Vs (k:=k+11) hT b8 ?_;walk_at"";exact h _ _ (W5.at (Ex.snoc _ _))
theorem QP(hT:tU T)(W:Wd g d m hd cl q qc qf s)(hf:s.lf<=47){dd:D}{z0 z1 z4 z5 z6 z9:Option D}(S:Step T (k+1) g m hd cl q qc qf s lW dd)(h:∀g' iz s' z9,Wd g' d m hd iz q qc qf s'->s'.lf<=s.lf+1->N.nx [z0,z1,some (.ref m),some (.ref q),z4,z5,z6,some (.int v),some dd,z9] g') :
  wpS (a8 T (k+12)) tL N [z0,z1,some (.ref m),some (.ref q),z4,z5,z6,some (.int v),some dd,z9] g E:=by
 have ad:=W.A.h;have lq:=m7 W.B.f;have lm:=m7 W.C.h;obtain⟨e,an,s',ok,K',l',uo,hc,hb⟩:=S;have zl:=λ{g:G} {cl:Nat} {s:Sd}=>WC (k:=k) (g:=g) (cl:=cl) (s:=s) (d:=d) (m:=m) (hd:=hd) (q:=q) (qc:=qc) (qf:=qf) (v:=v) (E:=E) (z0:=z0) (z1:=z1) (z4:=z4) (z5:=z5) (z6:=z6) (z8:=some dd) (z9:=z9) hT (N:=N);dsimp[yJ,tL,qe] at zl ⊢;walk_at"";by_cases he:e=""
 ·refine DF (k:=k+1) hT uo hc (λz=>absurd he z) λ_ g1 y iz F1 gN C1 A1=>?_;have e2:=Ex.snoc g1 (O.lst [D.str "",y]);have s2:=b8 (g:=g1) (o:=O.lst [D.str "",y]);have F2:=F1.trans (Ex.fl e2);have l1:=F1.len;walk_at"";refine hb _ F2 (W.box F2) _ _ (λz=>absurd he z) λ_ g3 y3 F3 B3 A3=>?_;have YU:iz<g1.length:=m7 C1.c;have ne:iz≠q/\iz≠qc/\iz≠qf:=by omega
  have C3:iq g3 m hd iz s'.lc s'.lf s'.hs s'.fs:=⟨F3.at (by omega) (e2.at C1.o),F3.at (by omega) (e2.at C1.h),F3.at ne (e2.at C1.c)⟩
  have W3:Wd g3 d m hd iz q qc qf s':=⟨F3.draw (F2.draw W.dr (by omega)) (by omega),C3,B3,K' he,⟨by omega⟩⟩
  have Yt:jA.at g.length g3 y an:=by
   cases an with
   |val d=>exact A1
   |lst l =>
    obtain⟨r,rfl,lr,er⟩:=A1;exact⟨r,rfl,lr,F3.at (by omega) (e2.at er)⟩
  walk_at"";have e4:=Ex.snoc g3 (O.lst [D.str "",y3]);refine J1 hT.te.h6 hT.te.h7 3 (k:=k+7) (GI (e4.at (F3.at (by omega) s2)) b8 ((jA.OX ok Yt A3).ex e4)) λg5 e5=>?_;refine Ar (iV rfl ?_);exact zl (W3.at (e4.trans e5)) (by omega) λg' z9 W'=>h g' iz s' z9 W' l'
 ·refine DF (k:=k+1) hT uo hc (λ_ g1 e1=>?_) λz=>absurd z he;have e2:=e1.trans (Ex.snoc g1 (O.lst [D.str e,.bc]));have s2:=b8 (g:=g1) (o:=O.lst [D.str e,.bc]);walk_at"";refine hb _ (Ex.fl e2) (W.B.at e2) _ _ (λ_ g3 e3=>?_) λz=>absurd z he;walk_at"";have e4:=Ex.snoc g3 (O.lst [D.str e,.bc]);refine J1 hT.te.h6 hT.te.h7 3 (k:=k+7) (GI (e4.at (e3.at s2)) b8 .bc) λg5 e5=>?_;refine Ar (iV rfl ?_);exact zl (W.at (e2.trans (e3.trans (e4.trans e5)))) (by omega) λg' z9 W'=>h g' cl s z9 W' (by omega)
theorem WZ(hT:tU T):a8 T (k+13) 11 [.ref 0] [.ng (ns.map .int)] (λd _=>d=.bl true) iZ:=by
 have h4:=hT.te.td.h4;refine call_of hT.Jq rfl ?_;dsimp[qe,b5,List.replicate];walk_at"";refine Ni (k:=k+11) hT.h3 (a:=0) (ns:=ns) rfl λd g D0 _ _=>?_;have dl:=D0.lt;walk_at"";refine Mw (k:=k+11) hT.te.tc ⟨rfl,?_⟩;walk_at"";refine Mv (k:=k+11) hT.te.td ?_;have e1:Ex g ((g++[fN (g.length+1) (g.length+2) 0 0,.bN [],.bN []])++[.bN (H9 ((g++[fN (g.length+1) (g.length+2) 0 0,.bN [],.bN []]).length+1) ((g++[fN (g.length+1) (g.length+2) 0 0,.bN [],.bN []]).length+2) 0 0),.bN [],.bN []]):=⟨by simp,λi hi=>by rw[aG (by simp;omega),aG hi]⟩
 have W:Wd ((g++[fN (g.length+1) (g.length+2) 0 0,.bN [],.bN []])++[.bN (H9 ((g++[fN (g.length+1) (g.length+2) 0 0,.bN [],.bN []]).length+1) ((g++[fN (g.length+1) (g.length+2) 0 0,.bN [],.bN []]).length+2) 0 0),.bN [],.bN []]) d g.length (g.length+1) (g.length+2) (g++[fN (g.length+1) (g.length+2) 0 0,.bN [],.bN []]).length ((g++[fN (g.length+1) (g.length+2) 0 0,.bN [],.bN []]).length+1) ((g++[fN (g.length+1) (g.length+2) 0 0,.bN [],.bN []]).length+2) ⟨0,0,[],[]⟩:=by
  refine⟨e1.draw D0,⟨?_,?_,?_⟩,⟨?_,?_,?_⟩,⟨⟨List.Pairwise.nil,by decide,λp hp=>by cases hp⟩,λj hj=>(by cases hj),List.Pairwise.nil,λj hj=>(by cases hj),by decide⟩,⟨by simp;omega⟩⟩
  all_goals first|(simp[fM,jv,List.getElem?_append];done)|(rw[cD (by simp)];simp[fM,jv];done)
 generalize ((g++[fN (g.length+1) (g.length+2) 0 0,.bN [],.bN []])++[.bN (H9 ((g++[fN (g.length+1) (g.length+2) 0 0,.bN [],.bN []]).length+1) ((g++[fN (g.length+1) (g.length+2) 0 0,.bN [],.bN []]).length+2) 0 0),.bN [],.bN []])=g1 at *;generalize (g++[fN (g.length+1) (g.length+2) 0 0,.bN [],.bN []]).length+2=qf at *;generalize (g++[fN (g.length+1) (g.length+2) 0 0,.bN [],.bN []]).length+1=qc at *;generalize (g++[fN (g.length+1) (g.length+2) 0 0,.bN [],.bN []]).length=q at *;generalize g.length+2=cl at *;generalize g.length+1=hd at *;generalize g.length=m at *;walk_at"";refine va (b9 T _) (Am (b9 T _) ?_);walk_at"";refine i9 (k:=k+11) h4 W.dr (by decide) (by decide) λr g2 r0 r1 D2 G2=>?_;walk_at"";refine⟨by omega,by omega,_,λi Z g'=>(∃cl s,Wd g' d m hd cl q qc qf s/\s.lf<=i)/\∃z4 z5 z6 z7 z8 z9,Z=[some (.ref 0),some (.ref d),some (.ref m),some (.ref q),z4,z5,z6,z7,z8,z9],λ_ _ _ _=>V2,⟨⟨cl,_,W.gr D2 G2,aj _⟩,none,none,none,none,none,none,rfl⟩,λi y Z g3 hy p=>?_,λZ g3 p=>?_⟩
 ·obtain⟨⟨cl,s,W3,hl⟩,z4,z5,z6,z7,z8,z9,rfl⟩:=p;obtain⟨hi,rfl⟩:=vG hy;have fl:=W3.K.fl;have O1:=W3.K.K;have hz:=O1.len;have nl:=L5 s.hs;have ad:=W3.A.h;have fin:∀{dd:D} {v:Int} {z4 z5 z6 z9:Option D} {g4:G},Wd g4 d m hd cl q qc qf s->Step T (k+1) g4 m hd cl q qc qf s lW dd->wpS (a8 T (k+12)) tL ⟨λZ g'=>(∃cl s,Wd g' d m hd cl q qc qf s/\s.lf<=i+1)/\∃z4 z5 z6 z7 z8 z9,Z=[some (.ref 0),some (.ref d),some (.ref m),some (.ref q),z4,z5,z6,z7,z8,z9],λd _=>d=.bl true,λZ g'=>wpS (a8 T (k+12)) (.seq (.ret (.call 207 (.cons (.var 2) (.cons (.var 3) .nil)))) .pass) ⟨λ_ _=>D.bc=.bl true,λd _=>d=.bl true,λ_ _=>False,λ_ _=>False⟩ Z g' iZ,λZ g'=>(∃cl s,Wd g' d m hd cl q qc qf s/\s.lf<=i+1)/\∃z4 z5 z6 z7 z8 z9,Z=[some (.ref 0),some (.ref d),some (.ref m),some (.ref q),z4,z5,z6,z7,z8,z9]⟩ [some (.ref 0),some (.ref d),some (.ref m),some (.ref q),z4,z5,z6,some (.int v),some dd,z9] g4 iZ:=λW4 S =>
   QP (k:=k) hT W4 (by omega) S λg' iz s' z9 W' Bv=>⟨⟨iz,s',W',by omega⟩,_,_,_,_,_,_,rfl⟩
  refine A6 ?_
  try show wpS _ _ _ _ _ _
  walk_at"";refine m4 W3.B.b rfl L1 ?_;walk_at"";refine sZ W3.B.c (by simp[fM];omega) ?_;rw[zm];walk_at"";refine F5 b8 O1.inc (by omega) ?_;have e1:=(Ex.snoc g3 (O.lst (c7 (nums s.hs)))).trans (Ex.snoc _ (O.lst (c7 (nums s.hs))));have s1:=b8 (g:=g3++[O.lst (c7 (nums s.hs))]) (o:=O.lst (c7 (nums s.hs)));have ls:g3.length<(g3++[O.lst (c7 (nums s.hs))]).length:=by simp
  generalize (g3++[O.lst (c7 (nums s.hs))]).length=sr at *;generalize (g3++[O.lst (c7 (nums s.hs))])++[_]=g4 at *;rw[vD] at s1;have W4:=W3.at e1;have d3:=W3.dr.lt;walk_at"";refine Wf (k:=k+9) hT.te W4.B O1 W4.dr λc g5 hc D5 G5=>?_;have W5:=W4.gr D5 G5;have s5:=G5.at (by omega) s1;walk_at"";refine SJ (k:=k+9) h4 hT.te.td.h5 hT.te.yf hc D5 λc g6 hc D6 G6=>?_;have W6:=W5.gr D6 G6;have s6:=G6.at (by omega) s5;walk_at"";refine Na (k:=k+8) hT.te.td s6 (by omega) (by simp[nums];omega) D6 λv g7 D7 G7=>?_;have W7:=W6.gr D7 G7;walk_at"";have e8:=Ex.snoc g7 (O.lst [D.tup [.str "put",c.d],.tup [.str "right",.int v,c.d],.tup [.str "out",.int v]]);have s8:=b8 (g:=g7) (o:=O.lst [D.tup [.str "put",c.d],.tup [.str "right",.int v,c.d],.tup [.str "out",.int v]]);have W8:=W7.at e8;have l8:g7.length≠d:=by have:=D7.lt;omega
  generalize g7++[_]=g8 at *;generalize g7.length=u8 at *;refine i9 (k:=k+11) h4 W8.dr (by decide) (by decide) λr g9 r0 r1 D9 G9=>?_;have W9:=W8.gr D9 G9;have s9:=G9.at l8 s8;walk_at"";have:(if r-2>0 then r-2 else 0)=0\/(if r-2>0 then r-2 else 0)=1\/(if r-2>0 then r-2 else 0)=2:=by split<;>omega
  rcases this with e|e|e
  ·rw[e];refine E2 (b0 s9) rfl ?_;exact fin W9 (Ye hT.te W9 hc)
  ·rw[e];refine E2 (b0 s9) rfl ?_;exact fin W9 (VA hT.te W9 hc)
  ·rw[e];refine E2 (b0 s9) rfl ?_;exact fin W9 (Yd hT.te W9 (by omega))
 ·obtain⟨⟨cl,s,W3,hl⟩,z4,z5,z6,z7,z8,z9,rfl⟩:=p;have fl:=W3.K.fl;rw[vH] at hl
  try show wpS _ _ _ _ _ _
  walk_at"";exact EJ (k:=k+6) hT.te W3.C W3.B W3.K.K W3.K.inc (by omega) λ_ _=>rfl
end
end M
namespace Lk
open PySem L2 M
def top(i:Nat):Stmt:=PySem.Challenge.pw_trussel_k41_coins_put_in_cabinets.main.body.getD i (.Pass ⟨0,0,0,0⟩)
def My:Stmt->List Stmt
 |.ClassDef (body:=b) ..=>b
 |_=>[]
def Cm(i j:Nat):Stmt:=(My (top i)).getD j (.Pass ⟨0,0,0,0⟩)
def F:List RF:=[⟨41,"_wall",["k"],1,0,Rp⟩,⟨38,"is_number",["thing"],1,18,zr⟩,⟨1,"number_from",["number","least","most"],3,19,T8⟩,⟨2,"good_marks",["marks","least","spot"],1,20,K0⟩,⟨15,"within",["one","other"],2,21,MW⟩,⟨12,"good_coin",["coin","lower","lower_marks","upper","upper_marks","year","good_lower","good_upper"],1,28,x8⟩,⟨39,"check_coin",["coin"],1,29,O4⟩,⟨18,"check_coins",["coins","coin"],1,30,ET⟩,⟨83,"check_place",["coins","place"],2,31,VW⟩,⟨40,"check_side",["side"],1,32,EA⟩,⟨19,"die_field",["side"],1,33,Ea⟩,⟨177,"with_thing",["things","at","thing"],3,34,EC⟩,⟨74,"places_of",["coins","word","thing","field"],3,35,Ec⟩,⟨75,"check_die",["coins","side","die"],3,36,DZ⟩,⟨20,"dies_of",["coins","side","field"],2,37,FX⟩,⟨42,"check_anvils",["anvils"],1,42,Wz⟩,⟨88,"good_rule",["coins","rule","word","one","other"],2,43,Uh⟩,⟨89,"check_rules",["coins","rules","at","rule"],2,44,VX⟩,⟨90,"stand_of",["places"],1,45,Xe⟩,⟨91,"with_coin",["stand","place"],2,46,Uj⟩,⟨92,"more_worn",["one","other","side","field"],2,47,Ui⟩,⟨93,"later",["one","other"],2,48,Km⟩,⟨94,"worn_stands",["coins"],1,49,Wb⟩,⟨95,"later_stands",["coins"],1,50,WA⟩,⟨96,"die_stands",["coins"],1,51,Vf⟩,⟨97,"needed_stands",["coins","rules","needed","word","one","other","first","place"],2,52,SU⟩,⟨98,"check_asked",["coins","anvils","rules"],3,54,VU⟩,⟨99,"bounds_of",["coins","anvils","rules"],3,55,Ug⟩,⟨100,"dies_in_use",["bounds","stand","place","struck","left"],3,56,Vg⟩,⟨101,"next_fault",["bounds","stand","place"],3,57,Vi⟩,⟨115,"follows",["bounds","stand","place"],3,59,Xb⟩,⟨116,"followers",["bounds","stand"],2,60,Vh⟩,⟨117,"reached_stands",["bounds","led_to","told","stand","place"],1,61,Th⟩,⟨121,"ways_on",["bounds","ways","stand"],1,63,MV⟩,⟨122,"step_on",["bounds","ways","stand","number","choices","left","at"],4,64,MR⟩,⟨123,"numbered_order",["bounds","ways","number","order","stand","left","place"],3,65,Tg⟩,⟨124,"first_order",["bounds","ways"],1,66,VZ⟩,⟨125,"least_order",["coins","anvils","rules"],3,67,V'⟩,⟨126,"how_many",["coins","anvils","rules"],3,68,Xc⟩,⟨129,"shown_paper",["bounds","stands"],1,70,Wa⟩,⟨132,"paper_of",["coins","anvils","rules"],3,71,Xd⟩,⟨136,"check_thing",["coins","word","thing"],3,73,VY⟩,⟨137,"check_pair",["coins","word","one","other"],4,74,Ve⟩,⟨138,"why_of",["coins","anvils","rules","word","one","other","one_ahead","other_ahead","one_order","other_order"],6,75,Kn⟩,⟨139,"told_of",["coins","anvils","rules","word","one","other"],6,76,MU⟩,⟨194,"least_free",["dies","number"],1,78,EB⟩,⟨3,"_law_open",["_law_script"],1,81,uX⟩,⟨4,"_law_pull",["_law_draw","_law_total_of","_law_cell","_law_got","_law_seed"],2,82,J9⟩,⟨5,"_law_far",["_law_draw","_law_number"],1,83,pA⟩,⟨36,"_law_near",["_law_draw","_law_total_of"],2,84,zI⟩,⟨6,"_law_num",["_law_found"],1,85,tS⟩,⟨7,"_law_like",["_law_found","_law_due"],2,86,A2⟩,⟨44,"_law_refused",["_law_found"],1,87,ze⟩,⟨8,"_law_marks_ok",["_law_marks"],1,88,Q2⟩,⟨13,"_law_coin_ok",["_law_coin"],1,89,L6⟩,⟨22,"_law_any_coin",["_law_draw","_law_menu","_law_lower","_law_upper","_law_year"],1,90,Y1⟩,⟨14,"_law_bent_coin",["_law_draw","_law_coin","_law_way","_law_lower","_law_lower_marks","_law_upper","_law_upper_marks","_law_year","_law_odd","_law_number"],2,91,S6⟩,⟨37,"_law_number_of",["_law_draw","_law_numbers"],2,92,zt⟩,⟨195,"_law_box",[],0,93,An⟩,⟨196,"_law_box_list",["_law_b"],1,94,zc⟩,⟨197,"_law_b_put",["_law_b","_law_coin"],2,95,zH⟩,⟨198,"_law_b_out",["_law_b","_law_number","_law_fact"],2,96,zG⟩,⟨199,"_law_b_tell",["_law_b","_law_one","_law_other"],3,97,Fo⟩,⟨200,"_law_other_die",["_law_coin","_law_side","_law_die","_law_row"],3,98,Eb⟩,⟨201,"_law_b_of",["_law_b","_law_side","_law_die","_law_at"],3,99,Cj⟩,⟨202,"_law_b_one",["_law_b","_law_side","_law_die","_law_other","_law_found","_law_number"],4,100,CT⟩,⟨203,"_law_b_two",["_law_b","_law_side","_law_die","_law_numbers","_law_found","_law_number","_law_fresh"],4,101,CU⟩,⟨204,"_law_b_do",["_law_b","_law_deed","_law_word","_law_old"],2,102,tR⟩,⟨205,"_law_cabinet_do",["_law_cabinet","_law_deed","_law_word"],2,103,K4⟩,⟨206,"_law_new_coin",["_law_draw","_law_b","_law_some","_law_coin","_law_other","_law_grown"],2,104,zd⟩,⟨207,"_law_box_stands",["_law_cabinet","_law_b","_law_numbers"],2,105,Y0⟩,⟨49,"_law_tried",["_law_cabinet","_law_deed"],2,106,zZ⟩,⟨187,"_law_coin_told",["_law_cabinet","_law_number"],2,107,zq⟩,⟨11,"law",["_law_script","_law_draw","_law_cabinet","_law_b","_law_turn","_law_numbers","_law_coin","_law_number","_law_deed","_law_row"],1,108,qe⟩]
def Ms:List RM:=[⟨113,"Bounds","__init__","Bounds.__init__",["self","coins","anvils","rules"],4,53,0,VT⟩,⟨208,"Cabinet","__init__","Cabinet.__init__",["self"],1,79,0,Q3⟩,⟨209,"Cabinet","check_number","Cabinet.check_number",["self","number"],2,79,1,u4⟩,⟨210,"Cabinet","check_pair","Cabinet.check_pair",["self","one","other"],3,79,2,N9⟩,⟨211,"Cabinet","numbers_of","Cabinet.numbers_of",["self","side","die","field"],3,79,3,N8⟩,⟨212,"Cabinet","give_die","Cabinet.give_die",["self","side","numbers","die","field","number"],4,79,4,S5⟩,⟨213,"Cabinet","fact_rules","Cabinet.fact_rules",["self","places"],1,79,5,Tq⟩,⟨214,"Cabinet","put","Cabinet.put",["self","coin"],2,79,6,F7⟩,⟨215,"Cabinet","right","Cabinet.right",["self","number","coin","old"],3,79,7,N4⟩,⟨216,"Cabinet","out","Cabinet.out",["self","number"],2,79,8,T9⟩,⟨217,"Cabinet","tell","Cabinet.tell",["self","one","other"],3,79,9,Fd⟩,⟨218,"Cabinet","untell","Cabinet.untell",["self","number"],2,79,10,V0⟩,⟨219,"Cabinet","one_die","Cabinet.one_die",["self","side","die","other","numbers"],4,79,11,V1⟩,⟨220,"Cabinet","two_dies","Cabinet.two_dies",["self","side","die","numbers","all_of_die","number","new_die"],4,79,12,S1⟩,⟨221,"Cabinet","numbers","Cabinet.numbers",["self"],1,79,13,K3⟩,⟨222,"Cabinet","coin","Cabinet.coin",["self","number"],2,79,14,K5⟩,⟨223,"Cabinet","coins","Cabinet.coins",["self"],1,79,15,N6⟩,⟨224,"Cabinet","facts","Cabinet.facts",["self"],1,79,16,N5⟩,⟨225,"Cabinet","order","Cabinet.order",["self","anvils","places","numbers"],2,79,17,SR⟩,⟨226,"Cabinet","many","Cabinet.many",["self","anvils"],2,79,18,Ww⟩,⟨227,"Cabinet","paper","Cabinet.paper",["self","anvils"],2,79,19,SS⟩,⟨228,"Cabinet","told","Cabinet.told",["self","anvils","one","other","numbers"],4,79,20,Wx⟩,⟨229,"Cabinet","fewest","Cabinet.fewest",["self"],1,79,21,Tf⟩,⟨230,"Cabinet","twin","Cabinet.twin",["self"],1,79,22,Wy⟩]
def con:List (Str×D):=[("LAST_SPOT",.int 7),("MOST_COINS",.int 9),("LAST_DIE",.int 99),("LAST_YEAR",.int 9999),("SIDES",.tup [(.str "lower"),(.str "upper")]),("MOST_ANVILS",.int 9),("RULE_WORDS",.tup [(.str "coin"),(.str "lower"),(.str "upper")]),("YEAR_FIELD",.int 4)]
def gd:List (Str×List D):=[("DIE_FIELDS",[.tup [.str "lower",.int 0],.tup [.str "upper",.int 2]])]
def exc:List Str:=["BadAnvils","BadCoin","BadList","BadRule","BadSide","Full","NoCoin","NoDie","NoFact","NoOrder","NoPlace","SameOne","TooMany"]
def c0:c8:=⟨[],[],true,F.map λr=>(r.nm,r.id),con,["len","enumerate","list","tuple","isinstance","all","range","int","bool","str","max","sorted","set","sum","reversed"],exc,gd,[("Bounds",113),("Cabinet",208)],Ms.map λr=>(r.nm,r.cl,r.id),[("size","Bounds"),("full","Bounds"),("room","Bounds"),("worn_by_place","Bounds"),("later_by_place","Bounds"),("lower_dies","Bounds"),("needed_by_place","Bounds"),("held","Cabinet"),("claims","Cabinet"),("last_coin","Cabinet"),("last_fact","Cabinet")],true,true⟩
noncomputable abbrev T:Nat->Option aJ:=qi F Ms
theorem tx:ke c0 F Ms top Cm:=by
 refine⟨rfl,rfl,by decide +kernel,by decide +kernel,by decide +kernel,by decide +kernel,?_,?_,?_,?_⟩
 all_goals
  repeat first
   |exact BF.nil
   |exact BM.nil
   |exact YF.nil
   |exact YM.nil
   |refine YF.cons (by kernel_rfl) ?_
   |refine YM.cons (by kernel_rfl) ?_
   |refine BF.cons (λ_ _ _ _ _ _=>(by(repeat refine AL λ_=>?_);exact AK rfl)) ?_
   |refine BM.cons (λ_ _ _ _ _ _=>(by(repeat refine AL λ_=>?_);exact AK rfl)) ?_
inductive qa:List DictEntry->List (Str×V)->Prop
 |nil:qa [] []
 |cons {h:Int} {x:Str} {t:Tok} {u:Value} {v:V} {es:List DictEntry} {vs:List (Str×V)} (r:RelV v u) (q:qa es vs):qa (⟨h,.str x t,u⟩::es) ((x,v)::vs)
theorem qa.find{es vs}(x:Str)(h:qa es vs):v7 (vs.lookup x) (findBy Value.isStrOf es.toArray x):=by
 induction h with
 |nil=>trivial
 |cons r q ih =>
  rename_i h y t u v es vs;unfold findBy at ih ⊢;rw[List.find?_toArray] at ih ⊢;rw[gQ,cc];by_cases e:x=y
  ·rw[show(x==y)=true from by simp[e],show Value.isStrOf x (.str y t)=true from by simp[Value.isStrOf,e]];exact r
  ·rw[show(x==y)=false from by simpa using e,show Value.isStrOf x (.str y t)=false from by simp[Value.isStrOf];exact λz=>e (z.symm)];exact ih
theorem all_mk{l:PySem.W.OpenLaw}{w:World}{K:PySem.W.Frag}{h:Heap}{mg:Str->Option Value}{fa:Addr}{yx yw uI:Addr}{t0 t1 t2 t3 sJ sI t5 sH sG sE t7 nR nQ nP nO:Tok}{yq:Array (Option Value)}{yu:Nat}{yp:Array (Option Value)}{yt:Nat}{Ju:Nat}{lR lQ:Int}(X:K.In h)(G:h.Ns mainGlobals mg)(IC:mg "law"=some (.ref fa))(I:kf K c0 F Ms top Cm)(e0:PySem.W.nsIn K mainGlobals "LAST_SPOT"=some (some (Value.int 7 t0)))(e1:PySem.W.nsIn K mainGlobals "MOST_COINS"=some (some (Value.int 9 t1)))(e2:PySem.W.nsIn K mainGlobals "LAST_DIE"=some (some (Value.int 99 t2)))(e3:PySem.W.nsIn K mainGlobals "LAST_YEAR"=some (some (Value.int 9999 t3)))(e4:PySem.W.nsIn K mainGlobals "SIDES"=some (some (.ref yx)))(JN:K.lookup yx=some ⟨.type "tuple",none,.seq #[Value.str "lower" sJ,Value.str "upper" sI] yu,yq⟩)(e5:PySem.W.nsIn K mainGlobals "MOST_ANVILS"=some (some (Value.int 9 t5)))(e6:PySem.W.nsIn K mainGlobals "RULE_WORDS"=some (some (.ref yw)))(JL:K.lookup yw=some ⟨.type "tuple",none,.seq #[Value.str "coin" sH,Value.str "lower" sG,Value.str "upper" sE] yt,yp⟩)(e7:PySem.W.nsIn K mainGlobals "YEAR_FIELD"=some (some (Value.int 4 t7)))(g0:PySem.W.nsIn K mainGlobals "DIE_FIELDS"=some (some (.ref uI)))(Jv:K.lookup uI=some ⟨.type "dict",none,.dict #[⟨lR,Value.str "lower" nR,Value.int 0 nQ⟩,⟨lQ,Value.str "upper" nP,Value.int 2 nO⟩] Ju,#[]⟩)(oA:lR=PyData.keyHash w.params "lower")(oz:lQ=PyData.keyHash w.params "upper")(Jt:(uI==sysModules)=false)
  : ∃fd:FuncData,(∀(s:Shared) (v:Value),BindsTo s fd ⟨[v],[]⟩ [("_law_script",v)])/\∀base:Heap,K.In base->base.Ns mainGlobals mg->fV l.prog w K mg base (gj l.prog w) 80 fa fd ["_law_script"] (nC exc K 1 (a8 T 40 11)):=by
 have A:lX w K mg c0 T:=by
  refine Me I tx X G (λx d hx=>?_) (λx kvs hx=>?_)
  ·have hm:=aH hx;simp only[c0,con,List.mem_cons,List.mem_nil_iff,or_false] at hm;rcases hm with z|z|z|z|z|z|z|z
   ·cases z;exact⟨(.int 7),_,bJ X G e0,⟨_,rfl⟩,λ_ _=>.int _⟩
   ·cases z;exact⟨(.int 9),_,bJ X G e1,⟨_,rfl⟩,λ_ _=>.int _⟩
   ·cases z;exact⟨(.int 99),_,bJ X G e2,⟨_,rfl⟩,λ_ _=>.int _⟩
   ·cases z;exact⟨(.int 9999),_,bJ X G e3,⟨_,rfl⟩,λ_ _=>.int _⟩
   ·cases z;exact⟨.ref yx,_,bJ X G e4,rfl,λ_ _=>.tup (vs:=[.str "lower",.str "upper"]) (.inr ⟨_,_,_,JN,rfl,rfl,rfl,(by show 2<=sizeLine;decide),.cons ⟨_,rfl⟩ (.cons ⟨_,rfl⟩ (.nil))⟩) (.cons (.str _) (.cons (.str _) (.nil)))⟩
   ·cases z;exact⟨(.int 9),_,bJ X G e5,⟨_,rfl⟩,λ_ _=>.int _⟩
   ·cases z;exact⟨.ref yw,_,bJ X G e6,rfl,λ_ _=>.tup (vs:=[.str "coin",.str "lower",.str "upper"]) (.inr ⟨_,_,_,JL,rfl,rfl,rfl,(by show 3<=sizeLine;decide),.cons ⟨_,rfl⟩ (.cons ⟨_,rfl⟩ (.cons ⟨_,rfl⟩ (.nil)))⟩) (.cons (.str _) (.cons (.str _) (.cons (.str _) (.nil))))⟩
   ·cases z;exact⟨(.int 4),_,bJ X G e7,⟨_,rfl⟩,λ_ _=>.int _⟩
  ·have hm:=aH hx;simp only[c0,gd,List.mem_cons,List.mem_nil_iff,or_false] at hm;have z:=hm
   ·cases z;have er:qa [⟨lR,Value.str "lower" nR,Value.int 0 nQ⟩,⟨lQ,Value.str "upper" nP,Value.int 2 nO⟩] [("lower",.int 0),("upper",.int 2)]:=.cons (v:=.int 0) ⟨_,rfl⟩ (.cons (v:=.int 2) ⟨_,rfl⟩ (.nil));exact⟨uI,_,bJ X G g0,⟨_,_,Jv,⟨⟨_,_,rfl,oA⟩,⟨⟨_,_,rfl,oz⟩,True.intro⟩⟩,Jt,λx=>er.find x⟩,.cons (λ_ _=>.int _) (.cons (λ_ _=>.int _) (.nil))⟩
 obtain⟨f,fd,O,a,t⟩:=Gn I tx _ (bH (i:=73) rfl);cases IC.symm.trans (bJ X G a);obtain⟨oc,od,kV,doc,pm,an,fg,ct,kR,rfl,lk,kC⟩:=O.fn.ex;exact⟨_,λs v=>.of_eq rfl,λbase lF sk=>Sz lF sk A 40 11 _ _ fa _ rfl O⟩
theorem walk{l:PySem.W.OpenLaw}{q:Program}{loose:List Str}{XP:(Str->Option Value)->Heap->Prop}{YP:World->Heap->Prop}{d:DefRec}{K:Params->PySem.W.Frag}(hn:l.most=some 63)(rT:d.params.defaults=[])(hY:∀(w:World) (h:Heap),YP w h->(K w.params).In h)(F:∀ (w:World) (mg:Str->Option Value) (fa:Addr) (h:Heap),(K w.params).In h->h.Ns mainGlobals mg->mg d.name=some (.ref fa) ->
   ∃ fd:FuncData,(∀ (s:Shared) (u:Value),BindsTo s fd ⟨[u],[]⟩ [("_law_script",u)])/\∀ base:Heap,(K w.params).In base->base.Ns mainGlobals mg->fV l.prog w (K w.params) mg base (gj l.prog w) 80 fa fd ["_law_script"] (nC exc (K w.params) 1 (a8 T 40 11))) :
  PySem.W.WalkO q loose XP YP l.row.toRowW d [] (λf vs=>PySem.call f vs) :=
 L2.Ot (n:=63) (k:=80) (x:="_law_script") (CX:=λw=>gj l.prog w) (sp:=λw=>nC exc (K w.params) 1 (a8 T 40 11)) hn (by decide) rT ⟨rfl,by decide,by decide⟩ hY F (λw H a ns hl hO hS=>Kh hO hS (WZ (k:=27) ⟨⟨⟨⟨rfl,rfl⟩,rfl,rfl,⟨rfl,rfl⟩,⟨rfl,rfl⟩,rfl,rfl,rfl,rfl,rfl,rfl,rfl,rfl,rfl,rfl,rfl,rfl,rfl,rfl,rfl,rfl⟩,⟨rfl,rfl,rfl,rfl,rfl,rfl,rfl,rfl,rfl,rfl,rfl,rfl,rfl⟩,rfl,rfl,rfl,rfl,rfl,rfl,rfl,rfl,rfl,rfl,rfl,rfl,rfl,rfl,rfl⟩,rfl,rfl,rfl,rfl,rfl⟩)) λ_ _ _ _ _ ⟨_,_,_,_,_,_,_,z⟩=>z
end Lk
end _X
open _X
open PySem PySem.W PyProof.Rows
set_option maxRecDepth 100000 in
set_option maxHeartbeats 0 in
theorem PySem.Challenge.cw_trussel_k41_coins_put_in_cabinets_holds : PySem.Challenge.rw_trussel_k41_coins_put_in_cabinets.Holds := by
 w_on;o_law;k_head;(case hw=>w_witness2)
 k_fill
 refine Lk.walk (l:=PySem.Challenge.rw_trussel_k41_coins_put_in_cabinets) rfl rfl (fun w h Y=>PySem.W.kIn_of Y) ?F
 case F =>
  intro w mg fa h KX G hmg
  refine' Lk.all_mk KX G hmg ⟨?zz1,?zz2,?zz3,?zz4,?zz5,?zz6,?zz7⟩ ?_ ?_ ?_ ?_ ?_ ?_ ?_ ?_ ?_ ?_ ?_ ?_ ?_ ?_ ?_
  (case zz1=>repeat' first | (with_reducible show _=_;k_is) | exact M.PF.nil | apply M.PF.cons)
  (case zz2=>repeat' first | (with_reducible show _=_;k_is) | exact M.PM.nil | apply M.PM.cons)
  (case zz3=>repeat' first | (with_reducible show _=_;k_is) | exact M.PC.nil | apply M.PC.cons)
  (case zz4=>repeat' first | (with_reducible show _=_;k_is) | exact M.PA.nil | apply M.PA.cons)
  (case zz5=>repeat' first | (with_reducible show _=_;k_is) | exact M.PB.nil | apply M.PB.cons)
  (case zz6=>repeat' first | (with_reducible show _=_;first | (with_reducible show PySem.W.excIn _ _ _ _=true;k_exc) | k_is) | exact M.PX.nil | apply M.PX.cons)
  (case zz7=>kernel_rfl)
  all_goals try (with_reducible show _=_;k_is)
  all_goals try ((with_reducible show _=_);rfl)
#print axioms PySem.Challenge.cw_trussel_k41_coins_put_in_cabinets_holds
